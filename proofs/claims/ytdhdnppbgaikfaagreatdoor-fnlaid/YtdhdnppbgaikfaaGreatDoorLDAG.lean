/- Texts joined, with what the laws reach alone. -/
import Derived.Test.YtdhdnppbgaikfaaGreatDoorLDAF
import Derived.Shelf.SortM.Plain
import Derived.Shelf.SortM.SortNone
import Derived.Shelf.SlicesG.In.CompactI
import Derived.Sort.EveryDepth
set_option linter.unusedVariables false
set_option linter.unusedSimpArgs false
namespace Go.Proofs.YtdhdnppbgaikfaaGreatDoor
open Go.RowKit
open Go.BigFrame
set_option maxRecDepth 100000
def slA:Value→Option Addr
 | .slice a _ _=>a
 | _=>none

def slK:Value→Nat
 | .slice _ _ k=>k
 | _=>0

def TxnQ.p (q:TxnQ):TxnP:=⟨q.e,slA q.va,slK q.va⟩

theorem TxnQ.p_cells {w:World} {q:TxnQ} (h:actK.At w q.va q.acts):q.p.cells=txnK.cells q:=by
 obtain ⟨a,c,e⟩:=h.shape
 show [_,_,_,_]=[_,_,_,_]
 simp only [TxnP.sl,TxnQ.p,TxnQ.e,e,slA,slK]

/-- What is read by kinds is read as a list of transactions. -/
theorem txnsAt_of {w:World} {v:Value} {ps:List TxnQ} (h:txnK.At w v ps):TxnsAt w v (ps.map TxnQ.e):=by
 obtain ⟨a,cap,e,hL,hr⟩:=h
 refine ⟨a,cap,ps.map TxnQ.p,by rw [List.length_map];exact e,by simp only [List.map_map];rfl,?_,?_⟩
 ·have e2:txnCells (ps.map TxnQ.p)=txnK.row ps:=by
   clear hL e
   induction ps with
   | nil=>rfl
   | cons q r ih=>
    have h1:q.p.cells=txnK.cells q:=TxnQ.p_cells (hr q (by simp))
    have h2:=ih (fun p hp=>hr p (List.mem_cons_of_mem _ hp))
    show q.p.cells ++ txnCells (r.map TxnQ.p)=txnK.cells q ++ txnK.row r
    rw [h1,h2]
  rw [e2]
  exact hL
 ·intro p hp
  obtain ⟨q,hq,rfl⟩:=List.mem_map.1 hp
  have h1:actK.At w q.va q.acts:=hr q hq
  obtain ⟨a',c',e',hl',_⟩:=h1
  show ActRow w (slA q.va) q.acts
  rw [e']
  exact hl'

theorem sumA_of (ps:List TxnQ):sumA (ps.map TxnQ.e)=nmL TxnQ.n ps:=by
 simp only [sumA,nmL,List.map_map]
 rfl

theorem idxN_lt (L:List Int) (x:Int):idxN L x < L.length↔x∈L:=by
 induction L with
 | nil=>simp [idxN]
 | cons y r ih=>
  by_cases h:y=x
  ·simp [idxN,h]
  ·have:¬ x=y:=fun e=>h e.symm
   simp [idxN,h,this,ih]

theorem idxI_in {L:List Int} {x:Int} (h:x∈L):0≤idxI L x:=by
 unfold idxI
 rw [if_pos ((idxN_lt L x).2 h)]
 omega

theorem idxI_out {L:List Int} {x:Int} (h:x ∉ L):idxI L x=-1:=by
 unfold idxI
 rw [if_neg (fun e=>h ((idxN_lt L x).1 e))]

theorem nodup_take {L:List Int} {k:Nat} (h:(L.take k).Nodup) (hk:k < L.length) (hx:L.getD k 0 ∉ L.take k):(L.take (k + 1)).Nodup:=by
 have e:L.getD k 0=L[k]:=by simp [List.getD,hk]
 rw [e] at hx
 rw [List.take_succ_eq_append_getElem hk,List.nodup_append]
 refine ⟨h,by simp,fun a ha b hb e=>?_⟩
 simp only [List.mem_singleton] at hb
 subst hb e
 exact hx ha

theorem not_nodup {L:List Int} {k:Nat} (hk:k < L.length) (hx:L.getD k 0∈L.take k):¬ L.Nodup:=by
 intro h
 have e:L.getD k 0=L[k]:=by simp [List.getD,hk]
 rw [e] at hx
 have h2:(L.take (k + 1)).Nodup:=List.Sublist.nodup (List.take_sublist _ _) h
 rw [List.take_succ_eq_append_getElem hk,List.nodup_append] at h2
 exact h2.2.2 _ hx _ (by simp) rfl

theorem Row.take6 {k:IntKind} {w:World} {a:Option Addr} {zs:List Int} (h:Row k w a zs) (j:Nat):Row k w a (zs.take j):=by
 intro i hi
 have hi2:i < j∧i < zs.length:=by rw [List.length_take] at hi;omega
 obtain ⟨b,off,ha,hlt,hc⟩:=h i hi2.2
 refine ⟨b,off,ha,hlt,?_⟩
 rw [hc]
 simp [List.getD,List.getElem?_take,hi2.1]

theorem own_cap6 {w:World} {base e s n c:Nat} {a:Option Addr} {xs:List Value} (h:w.ownsRow base e s (.slice a n c) n xs):n≤c:=by
 rcases h.2 with ⟨he,hn⟩ | ⟨g,cap,cur,he,_,_,hc,_⟩
 ·omega
 ·simp only [Value.slice.injEq,true_and] at he
  omega

theorem sl_hi (b off n c k:Nat) (hk:k≤c) (w:World):(Instr.sliceAt 26 (.slice (some ⟨b,off,none⟩) n c) none (some (.int .i64 (k:Int))) none).run Tryz.prog w=.ok (.slice (some ⟨b,off,none⟩) k c) w:=by
 have hel:Tryz.prog.elem 26=2:=by kernel_rfl
 have hun:Tryz.prog.underlying 26=some (.slice (Tryz.prog.elem 26)):=by kernel_rfl
 have hsz:(sizeOf (Tryz.prog.elem 26)).run Tryz.prog w=.ok 1 w:=by rw [hel];kernel_rfl
 rw [run_sliceAt_slice (h:=hun),run_slice_h (ht:=hun) (kh:=.i64) (h:=(k:Int)) (h0:=by omega) (h2:=by omega),hsz]
 simp only [Result.andThen,sliced,Int.toNat_natCast]
 split
 ·rename_i h
  simp
 ·simp only [Option.map_some,Addr.add_lit,Nat.zero_mul,Nat.add_zero,Nat.sub_zero]

theorem batF_many {ds:List TxnD} (h:ds.length < 1∨4 < ds.length):batF ds=2:=if_pos h

theorem batF_few {ds:List TxnD} (h:¬ (ds.length < 1∨4 < ds.length)):batF ds=if allF ds=0 then (if (ds.map TxnD.id).Nodup then 0 else 6) else allF ds:=if_neg h

set_option maxHeartbeats 4000000 in
theorem l6Batch_any (v:Value) (ds:List TxnD) (w:World) (h:TxnsAt w v ds) (hl:ds.length + sumA ds≤1048576) :
  Calls Tryz.prog 78 #[v] w fun e w' => e=.returned (.int .i64 (batF ds))∧Below w.heap.size w w' := by
 obtain ⟨a,cap,rfl⟩:=h.shape
 by_cases hlo:ds.length < 1
 ·rw [batF_many (Or.inl hlo)]
  go_enter Tryz.func78,Tryz.ntmps78
  go_wp2
  go_ret
  exact ⟨rfl,Below.refl _ _⟩
 ·by_cases hhi:4 < ds.length
  ·rw [batF_many (Or.inr hhi)]
   go_enter Tryz.func78,Tryz.ntmps78
   go_wp2
   go_ret
   exact ⟨rfl,Below.refl _ _⟩
  ·have HB:Hid (batF ds=if allF ds=0 then (if (ds.map TxnD.id).Nodup then 0 else 6) else allF ds):=batF_few (by omega)
   generalize batF ds=E at HB ⊢
   have hlo' : 1≤ds.length:=by omega
   have hhi' : ds.length≤4:=by omega
   clear hlo hhi
   go_enter Tryz.func78,Tryz.ntmps78
   go_wp2
   go_loop [3] (fun j=>∃ k:Nat,k≤ds.length∧j=.int .i64 k∧Hid (∀ j,j < k→(ds.getD j txnNo).F=0)) (fun j=>ds.length - (intOf j).toNat)
   case atStart=>exact ⟨0,Nat.zero_le _,rfl,fun j hj=>absurd hj (Nat.not_lt_zero _)⟩
   case round=>
    obtain ⟨k,hk,rfl,HA⟩:=hrel
    by_cases hlt:k < ds.length
    ·obtain ⟨b,off,aa,cc,rfl,hbs,hc0,hc1,hc2,hc3,hA⟩:=h.at k hlt
     have hzl:(ds.getD k txnNo).acts.length≤sumA ds:=mem_le_sumA (by simp [List.getD,hlt])
     have hcall:=l2Fault_any b (off + k * 4) _ _ _ aa cc _ w (TxnsAt.box hc0 hc1 hc2 hc3) hA (by omega)
     change Calls _ _ _ _ fun e w' => e=.returned (.int .i64 ((ds.getD k txnNo).F))∧_ at hcall
     clear hc0 hc1 hc2 hc3 hA
     by_cases hF:(ds.getD k txnNo).F=0
     ·have HB2:Hid (∀ j,j < k + 1→(ds.getD j txnNo).F=0):=by
       intro j hj
       by_cases hjk:j=k
       ·subst hjk;exact hF
       ·exact HA.out j (by omega)
      rw [hF] at hcall
      clear HA hF
      go_wp2_with (go_at_call 105;refine hcall.mono ?_;rintro e w' ⟨rfl,rfl⟩)
      go_round
      case rel=>exact ⟨k + 1,by omega,by go_num,HB2⟩
      case measure=>simp [intOf];omega
     ·have E2:Hid (E=(ds.getD k txnNo).F):=by
       have e1:=allF_first ds k HA.out hlt hF
       have e2:=HB.out
       rw [e1,if_neg hF] at e2
       exact e2
      have hne:((ds.getD k txnNo).F != 0)=true:=by simpa using hF
      clear HA hF HB
      generalize (ds.getD k txnNo).F=r at hcall E2 hne
      go_wp2_with (go_at_call 105;refine hcall.mono ?_;rintro e w' ⟨rfl,rfl⟩)
      go_ret
      rw [E2.out]
      exact ⟨rfl,Below.refl _ _⟩
    ·have hkl:k=ds.length:=by omega
     subst hkl
     have E3:Hid (E=if (ds.map TxnD.id).Nodup then 0 else 6):=by
      have e2:=HB.out
      rw [if_pos (allF_none ds HA.out)] at e2
      exact e2
     clear HA HB
     have hids:=l2Ids_any _ ds w h (by omega)
     go_wp2_with fail
     refine hids.mono ?_
     rintro e w1 ⟨ib,ic,rfl,ho,hb1⟩
     have hR:=Row.own ho
     have hcap:=own_cap6 ho
     have hln:(ds.map TxnD.id).length≤4:=by simpa using hhi'
     clear hids ho
     generalize ds.map TxnD.id=L at *
     go_wp2
     go_loopw [6] (fun j wr=>∃ k:Nat,k≤L.length∧j=.int .i64 k∧Hid ((L.take k).Nodup)∧Below w1.heap.size w1 wr) (fun j _=>L.length - (intOf j).toNat)
     case atStart=>exact ⟨0,Nat.zero_le _,rfl,show List.Nodup _ by simp,Below.refl _ _⟩
     case round=>
      obtain ⟨k,hk,rfl,HA,hb⟩:=hrel
      by_cases hlt:k < L.length
      ·obtain ⟨b,off,rfl,hbs,hc⟩:=(hR.below hb) k hlt
       have hTk:(L.take k).length=k:=by simp;omega
       have hT:=(hR.below hb).take6 k
       have HY:Hid (L.getD k 0∈L.take k→E=6):=fun hx=>by rw [E3.out,if_neg (not_nodup hlt hx)]
       have HN:Hid (L.getD k 0 ∉ L.take k→(L.take (k + 1)).Nodup):=fun hx=>nodup_take HA.out hlt hx
       have hfind:=fun w h=>l1Find_any (some ⟨b,off,none⟩) ic (L.take k) (L.getD k 0) w h (by omega)
       rw [hTk] at hfind
       clear HA hTk
       have hI:L.getD k 0∈L.take k∨L.getD k 0 ∉ L.take k:=Classical.em _
       have HI:Hid ((L.getD k 0∈L.take k∧0≤idxI (L.take k) (L.getD k 0))∨(L.getD k 0 ∉ L.take k∧idxI (L.take k) (L.getD k 0)=-1)):=hI.elim (fun h=>Or.inl ⟨h,idxI_in h⟩) (fun h=>Or.inr ⟨h,idxI_out h⟩)
       clear hI
       generalize L.getD k 0=z at *
       generalize idxI (L.take k) z=q at *
       have k0:=lat_cell hc
       clear hc
       have hW:Below wr.heap.size wr wr.drew:=(Below.refl _ _).drew
       have hne:Nonempty (Lat wr):=⟨⟨wr,Below.refl _ _⟩⟩
       have hkL:(k:Int)≤(ic:Int):=by omega
       go_wp2_with fail
       refine text_begin (S:=fun w' => ∃ u:Lat wr,w' = u.val) (by kernel_rfl) ?_
       refine sgr [(0,2)] 7 (by kernel_rfl) ⟨⟨_,hW⟩,rfl⟩ ?_
       simp only [pkE]
       repeat go_big_quiet_step (fail)
       refine wpQuiet_nil ?_
       have hsl:=sl_hi b off L.length ic k (by omega)
       refine qta 2 (some 38) (.slice (some ⟨b,off,none⟩) k ic) 6 (by kernel_rfl) (fun u _=>?_) ⟨⟨_,hW⟩,rfl⟩ ?_
       ·show some (((Instr.sliceAt 26 (.slice (some ⟨b,off,none⟩) L.length ic) none (some (.int .i64 (k:Int))) none) >>= fun x=>pure (Next.value x):Sem Next).run Tryz.prog u)=_
        rw [Sem.run_bind,hsl u]
        rfl
       clear hsl
       simp only [Act.put,pjE]
       refine sgr [(3,4)] 2 (by kernel_rfl) ⟨⟨_,hW⟩,rfl⟩ ?_
       simp only [pkE]
       repeat go_big_quiet_step (fail)
       refine wpQuiet_nil ?_
       refine cla 7 (some 43) 79 #[.slice (some ⟨b,off,none⟩) k ic,.int .i64 z] 1 (by kernel_rfl) ?_
       refine (hfind _ (hT.below hW)).mono ?_
       rintro e w2 ⟨rfl,hw2⟩
       replace hw2:=hw2.symm
       subst hw2
       refine ⟨_,rfl,⟨⟨_,hW⟩,rfl⟩,?_⟩
       simp only [Act.put,pjE]
       refine sgr [(8,1)] 0 (by kernel_rfl) ⟨⟨_,hW⟩,rfl⟩ ?_
       simp only [pkE]
       repeat go_big_quiet_step (fail)
       refine wpQuiet_nil ?_
       refine text_end (by kernel_rfl) ?_
       replace hb:=hb.trans (hW.mono hb.size)
       clear k0 hW hne hfind hT hkL
       generalize wr.drew=wd at *
       by_cases hq:0≤q
       ·have E5:Hid (E=6):=by
         rcases HI.out with h | h
         ·exact HY.out h.1
         ·omega
        clear HI HY HN E3
        go_wp2
        go_ret
        exact ⟨by rw [E5.out];rfl,hb1.trans (hb.mono hb1.size)⟩
       ·have R:Hid ((L.take (k + 1)).Nodup):=by
         rcases HI.out with h | h
         ·omega
         ·exact HN.out h.1
        clear HI HY HN
        go_wp2
        go_roundw
        case rel=>exact ⟨k + 1,by omega,by go_num,R,hb⟩
        case measure=>simp [intOf];omega
      ·have hkl:k=L.length:=by omega
       subst hkl
       rw [List.take_length] at HA
       have E4:Hid (E=0):=by
        have:=E3.out
        rw [if_pos HA.out] at this
        exact this
       clear HA E3
       go_wp2
       go_ret
       exact ⟨by rw [E4.out];rfl,hb1.trans (hb.mono hb1.size)⟩

end Go.Proofs.YtdhdnppbgaikfaaGreatDoor
namespace Go.Proofs.YtdhdnppbgaikfaaGreatDoor
open Go.RowKit Go.Sort Go.Shelf
set_option maxRecDepth 100000
def shSort_ren:Go.Shelf.Ren:=⟨fun | 5=>97 | 8=>113 | 7=>112 | 19=>129 | 20=>130 | 10=>120 | 11=>121 | 12=>122 | 13=>123 | 14=>124 | 15=>125 | 16=>126 | 17=>127 | 18=>128 | 30=>135 | 31=>136 | 32=>137 | 33=>138 | 34=>139 | 35=>140 | 40=>144 | n=>n,fun | 23=>26 | 25=>2 | 3=>3 | 32=>158 | 22=>26 | 0=>0 | 44=>176 | 46=>163 | 4=>4 | 36=>169 | 35=>168 | 41=>173 | 5=>5 | 9=>9 | 53=>183 | 57=>187 | 63=>192 | 64=>193 | n=>n,fun | n=>n⟩

theorem shSort:Go.Proofs.SlLaysM.n5 Tryz.prog shSort_ren:={
 mixed:=by kernel_rfl,
 f5:=⟨Tryz.f97.name,by decide,Tryz.func97.trans (congrArg some (by kernel_rfl))⟩,
 f7:=⟨Tryz.f112.name,by decide,Tryz.func112.trans (congrArg some (by kernel_rfl))⟩,
 f8:=Tryz.func113.trans (congrArg some (by kernel_rfl)),
 f10:=⟨Tryz.f120.name,by decide,Tryz.func120.trans (congrArg some (by kernel_rfl))⟩,
 f11:=⟨Tryz.f121.name,by decide,Tryz.func121.trans (congrArg some (by kernel_rfl))⟩,
 f12:=⟨Tryz.f122.name,by decide,Tryz.func122.trans (congrArg some (by kernel_rfl))⟩,
 f13:=⟨Tryz.f123.name,by decide,Tryz.func123.trans (congrArg some (by kernel_rfl))⟩,
 f14:=⟨Tryz.f124.name,by decide,Tryz.func124.trans (congrArg some (by kernel_rfl))⟩,
 f15:=⟨Tryz.f125.name,by decide,Tryz.func125.trans (congrArg some (by kernel_rfl))⟩,
 f16:=⟨Tryz.f126.name,by decide,Tryz.func126.trans (congrArg some (by kernel_rfl))⟩,
 f17:=⟨Tryz.f127.name,by decide,Tryz.func127.trans (congrArg some (by kernel_rfl))⟩,
 f18:=⟨Tryz.f128.name,by decide,Tryz.func128.trans (congrArg some (by kernel_rfl))⟩,
 f19:=Tryz.func129.trans (congrArg some (by kernel_rfl)),
 f20:=Tryz.func130.trans (congrArg some (by kernel_rfl)),
 f30:=⟨Tryz.f135.name,by decide,Tryz.func135.trans (congrArg some (by kernel_rfl))⟩,
 f31:=Tryz.func136.trans (congrArg some (by kernel_rfl)),
 f32:=Tryz.func137.trans (congrArg some (by kernel_rfl)),
 f33:=⟨Tryz.f138.name,by decide,Tryz.func138.trans (congrArg some (by kernel_rfl))⟩,
 f34:=⟨Tryz.f139.name,by decide,Tryz.func139.trans (congrArg some (by kernel_rfl))⟩,
 f35:=⟨Tryz.f140.name,by decide,Tryz.func140.trans (congrArg some (by kernel_rfl))⟩,
 f40:=⟨Tryz.f144.name,by decide,Tryz.func144.trans (congrArg some (by kernel_rfl))⟩,
 t0:=Tryz.underlying0,
 a0:=Tryz.isAgg0,
 z0:=Tryz.sizeOf0,
 v0:=Tryz.zeroValue0,
 t3:=Tryz.underlying3,
 a3:=Tryz.isAgg3,
 z3:=Tryz.sizeOf3,
 v3:=Tryz.zeroValue3,
 t4:=Tryz.underlying4,
 a4:=Tryz.isAgg4,
 z4:=Tryz.sizeOf4,
 v4:=Tryz.zeroValue4,
 t5:=Tryz.underlying5,
 a5:=Tryz.isAgg5,
 z5:=Tryz.sizeOf5,
 v5:=Tryz.zeroValue5,
 t9:=Tryz.underlying9,
 a9:=Tryz.isAgg9,
 z9:=Tryz.sizeOf9,
 v9:=Tryz.zeroValue9,
 t22:=Tryz.underlying26,
 a22:=Tryz.isAgg26,
 z22:=Tryz.sizeOf26,
 v22:=Tryz.zeroValue26,
 t23:=Tryz.underlying26,
 a23:=Tryz.isAgg26,
 z23:=Tryz.sizeOf26,
 v23:=Tryz.zeroValue26,
 t25:=Tryz.underlying2,
 a25:=Tryz.isAgg2,
 z25:=Tryz.sizeOf2,
 v25:=Tryz.zeroValue2,
 t32:=Tryz.underlying158,
 a32:=Tryz.isAgg158,
 z32:=Tryz.sizeOf158,
 v32:=Tryz.zeroValue158,
 t35:=Tryz.underlying168,
 a35:=Tryz.isAgg168,
 z35:=Tryz.sizeOf168,
 v35:=Tryz.zeroValue168,
 t36:=Tryz.underlying169,
 a36:=Tryz.isAgg169,
 z36:=Tryz.sizeOf169,
 v36:=Tryz.zeroValue169,
 t41:=Tryz.underlying173,
 a41:=Tryz.isAgg173,
 z41:=Tryz.sizeOf173,
 v41:=Tryz.zeroValue173,
 t44:=Tryz.underlying176,
 a44:=Tryz.isAgg176,
 z44:=Tryz.sizeOf176,
 v44:=Tryz.zeroValue176,
 t46:=Tryz.underlying163,
 a46:=Tryz.isAgg163,
 z46:=Tryz.sizeOf163,
 v46:=Tryz.zeroValue163,
 t53:=Tryz.underlying183,
 a53:=Tryz.isAgg183,
 z53:=Tryz.sizeOf183,
 v53:=Tryz.zeroValue183,
 t57:=Tryz.underlying187,
 a57:=Tryz.isAgg187,
 z57:=Tryz.sizeOf187,
 v57:=Tryz.zeroValue187,
 t63:=Tryz.underlying192,
 a63:=Tryz.isAgg192,
 z63:=Tryz.sizeOf192,
 v63:=Tryz.zeroValue192,
 t64:=Tryz.underlying193,
 a64:=Tryz.isAgg193,
 z64:=Tryz.sizeOf193,
 v64:=Tryz.zeroValue193 }

def shComp_ren:Go.Shelf.Ren:=⟨fun | 43=>98 | n=>n,fun | 22=>26 | 23=>2 | 3=>3 | 4=>4 | 0=>0 | n=>n,fun | n=>n⟩

theorem shComp:Go.Proofs.SlLaysN.n43 Tryz.prog shComp_ren:={
 mixed:=by kernel_rfl,
 f43:=⟨Tryz.f98.name,by decide,Tryz.func98.trans (congrArg some (by kernel_rfl))⟩,
 t0:=Tryz.underlying0,
 a0:=Tryz.isAgg0,
 z0:=Tryz.sizeOf0,
 v0:=Tryz.zeroValue0,
 t3:=Tryz.underlying3,
 a3:=Tryz.isAgg3,
 z3:=Tryz.sizeOf3,
 v3:=Tryz.zeroValue3,
 t4:=Tryz.underlying4,
 a4:=Tryz.isAgg4,
 z4:=Tryz.sizeOf4,
 v4:=Tryz.zeroValue4,
 t22:=Tryz.underlying26,
 a22:=Tryz.isAgg26,
 z22:=Tryz.sizeOf26,
 v22:=Tryz.zeroValue26,
 t23:=Tryz.underlying2,
 a23:=Tryz.isAgg2,
 z23:=Tryz.sizeOf2,
 v23:=Tryz.zeroValue2,
 i23:=by kernel_rfl }

end Go.Proofs.YtdhdnppbgaikfaaGreatDoor
namespace Go.Proofs.YtdhdnppbgaikfaaGreatDoor
open Go.RowKit
open Go.BigFrame
open Go.Sort
set_option maxRecDepth 100000
theorem sorted_nodup:∀ (L:List Int),L.Pairwise (· ≤ ·)→(∀ j,j + 1 < L.length→L.getD (j + 1) 0≠L.getD j 0)→L.Nodup
 | [],_,_=>List.nodup_nil
 | [a],_,_=>by simp
 | a :: b :: t,hs,hadj=>by
  rw [List.pairwise_cons] at hs
  have hab:a≠b:=fun e=>hadj 0 (by simp) (by simpa using e.symm)
  have ih:=sorted_nodup (b :: t) hs.2 (fun j hj=>by simpa using hadj (j + 1) (by simpa using hj))
  rw [List.nodup_cons]
  refine ⟨fun hm=>?_,ih⟩
  have h1:=hs.1 b (by simp)
  rcases List.mem_cons.1 hm with h | h
  ·exact hab h
  ·have h2:=(List.pairwise_cons.1 hs.2).1 a h
   omega

theorem getB (L:List Int) (j:Nat):L.toArray[j]! = L.getD j 0:=by
 rw [List.getElem!_toArray]
 by_cases h:j < L.length
 ·rw [getElem!_pos L j h];simp [List.getD,h]
 ·rw [getElem!_neg L j h];simp [List.getD,List.getElem?_eq_none (show L.length≤j by omega)]

/-- Of equal neighbours one stays: nothing goes just where none stands twice. -/
theorem compact_len (L:List Int) (hs:L.Pairwise (· ≤ ·)):(L.Nodup→(Lib.compact L).length=L.length)∧(¬ L.Nodup→(Lib.compact L).length < L.length):=by
 constructor
 ·intro h
  rw [Lib.compact_all]
  intro j hj
  unfold Lib.keeps
  rw [decide_eq_true_eq,getB,getB]
  by_cases h0:j=0
  ·exact Or.inl h0
  ·right
   intro e
   have e1:L.getD j 0=L[j]:=by simp [List.getD,hj]
   have e2:L.getD (j - 1) 0=L[j - 1]'(by omega):=by simp [List.getD,show j - 1 < L.length by omega]
   rw [e1,e2] at e
   exact List.pairwise_iff_getElem.1 h (j - 1) j (by omega) hj (by omega) e.symm
 ·intro h
  have hex:∃ j,j + 1 < L.length∧L.getD (j + 1) 0=L.getD j 0:=by
   apply Classical.byContradiction
   intro hn
   exact h (sorted_nodup L hs (fun j hj e=>hn ⟨j,hj,e⟩))
  obtain ⟨j,hj,e⟩:=hex
  unfold Lib.compact Lib.compactUpTo
  rw [List.length_map]
  have:=(List.length_filter_lt_length_iff_exists (p:=Lib.keeps L.toArray) (l:=List.range L.length)).2 ⟨j + 1,List.mem_range.2 hj,by
   unfold Lib.keeps
   rw [decide_eq_true_eq,getB,getB]
   rintro (h | h)
   ·omega
   ·exact h (by simpa using e)⟩
  rwa [List.length_range] at this

/-- A row that is written over in place. -/
theorem own_put {w w' : World} {base g n cap q:Nat} {zs ys:List Int} {os:Array Obj} (h:w.ownsRow base 2 1 (.slice (some ⟨g,0,none⟩) n cap) n (zs.map (Value.int .i64))) (hl:ys.length=n)
  (hw:w' = grow (putRow (Value.int .i64) (Sort.ahead w q) g 0 ys.toArray) os):w'.ownsRow base 2 1 (.slice (some ⟨g,0,none⟩) n cap) n (ys.map (Value.int .i64))∧Out [g] w w' := by
 rcases h.2 with ⟨he,hn⟩ | ⟨g',cap',cur,he,hb,hh,h1,h2,h3,h4⟩
 ·simp at he
 ·simp only [Value.slice.injEq,Option.some.injEq,Addr.mk.injEq,and_true,true_and] at he
  obtain ⟨rfl,rfl⟩:=he
  have hlt:g < w.heap.size:=(Array.getElem?_eq_some_iff.1 hh).1
  have hsz:(putRow (Value.int .i64) (Sort.ahead w q) g 0 ys.toArray).heap.size=w.heap.size:=by simp
  have hblk:∀ k,k < w.heap.size→w'.heap[k]? = (putRow (Value.int .i64) (Sort.ahead w q) g 0 ys.toArray).heap[k]? := fun k hk=>by
   rw [hw]
   exact Array.getElem?_append_left (by rw [hsz];exact hk)
  have hg:w'.heap[g]? = some (.cells (putCells (Value.int .i64) 0 ys.toArray cur) 2 (0,0)):=by
   rw [hblk g hlt]
   show (w.heap.modify g _)[g]? = _
   rw [Array.getElem?_modify,if_pos rfl,hh]
   rfl
  have hcs:(putCells (Value.int .i64) 0 ys.toArray cur).size=cur.size:=by simp [putCells]
  refine ⟨⟨by simp [hl],Or.inr ⟨g,cap,_,rfl,hb,hg,h1,h2,by rw [hcs];exact h3,?_⟩⟩,?_⟩
  ·apply List.ext_getElem?
   intro j
   by_cases hj:j < n
   ·rw [List.getElem?_take,if_pos (by omega),Array.getElem?_toList]
    simp only [putCells,Array.getElem?_mapIdx]
    rw [Array.getElem?_eq_getElem (by omega),Option.map_some,if_pos ⟨Nat.zero_le _,by rw [List.size_toArray];omega⟩]
    simp only [Nat.sub_zero]
    rw [getB,List.getElem?_map,List.getElem?_eq_getElem (by omega)]
    simp [List.getD,show j < ys.length by omega]
   ·rw [List.getElem?_eq_none (by simp;omega),List.getElem?_eq_none (by simp;omega)]
  ·refine ⟨by rw [hw];rfl,by rw [hw];rfl,by rw [hw];rfl,?_,fun k hk hn=>?_⟩
   ·rw [hw]
    show w.heap.size≤(_ ++ os).size
    rw [Array.size_append,hsz]
    omega
   ·rw [hblk k hk]
    show (w.heap.modify g _)[k]? = _
    rw [Array.getElem?_modify,if_neg (fun e=>hn (by simp [e]))]

theorem holds_own {w:World} {base g n cap:Nat} {zs:List Int} (h:w.ownsRow base 2 1 (.slice (some ⟨g,0,none⟩) n cap) n (zs.map (Value.int .i64))):Holds (Value.int .i64) w g 0 zs.toArray∧g < w.heap.size∧n≤cap:=by
 have hl:zs.length=n:=by have:=h.1;simpa using this
 refine ⟨fun j hj=>?_,?_,own_cap6 h⟩
 ·rw [List.size_toArray] at hj
  refine ⟨?_,h.frozenAt _⟩
  rw [Nat.zero_add,h.cellAt j (by omega),getB]
  simp [List.getD,hj]
 ·exact (h.lt g rfl).2

theorem sort6_any (g cap base:Nat) (zs:List Int) (w:World) (h:w.ownsRow base 2 1 (.slice (some ⟨g,0,none⟩) zs.length cap) zs.length (zs.map (Value.int .i64))) (hl:zs.length≤60) :
  Calls Tryz.prog 97 #[.slice (some ⟨g,0,none⟩) zs.length cap] w fun e w' => e=.returned (.tuple #[])∧∃ ys:List Int,ys.Perm zs∧ys.Pairwise (· ≤ ·)∧w'.ownsRow base 2 1 (.slice (some ⟨g,0,none⟩) zs.length cap) zs.length (ys.map (Value.int .i64))∧Out [g] w w' := by
 obtain ⟨hH,hlt,hc⟩:=holds_own h
 refine (AnyM.slices_Sort_int shSort g 0 cap zs w hH hlt (by omega)).mono ?_
 rintro e w' ⟨rfl,q,os,hw⟩
 obtain ⟨o,u⟩:=own_put h (by rw [List.length_mergeSort]) hw
 refine ⟨rfl,_,List.mergeSort_perm _ _,?_,o,u⟩
 have:=List.pairwise_mergeSort (le:=fun (x y:Int)=>decide (x≤y)) (fun a b c h1 h2=>by simp only [decide_eq_true_eq] at *;omega) (fun a b=>by simp only [Bool.or_eq_true,decide_eq_true_eq];omega) zs
 exact this.imp (fun h=>by simpa using h)

theorem compact6_any (g cap base:Nat) (zs:List Int) (w:World) (h:w.ownsRow base 2 1 (.slice (some ⟨g,0,none⟩) zs.length cap) zs.length (zs.map (Value.int .i64))) (hl:zs.length≤60) :
  Calls Tryz.prog 98 #[.slice (some ⟨g,0,none⟩) zs.length cap] w fun e w' => e=.returned (.slice (some ⟨g,0,none⟩) (Lib.compact zs).length cap)∧Out [g] w w' := by
 obtain ⟨hH,hlt,hc⟩:=holds_own h
 refine (calls_of_every_depth fun D=>AnySG.slices_Compact_int_in shComp D g 0 cap zs w hH (by omega) hc).mono ?_
 rintro e w' ⟨rfl,q,hw⟩
 have hle:(Lib.compact zs).length≤zs.length:=by
  unfold Lib.compact Lib.compactUpTo
  rw [List.length_map]
  exact Nat.le_trans (List.length_filter_le _ _) (by simp)
 exact ⟨rfl,(own_put (ys:=Lib.compact zs ++ List.replicate (zs.length - (Lib.compact zs).length) 0) (os:=#[]) h (by simp only [List.length_append,List.length_replicate];omega) (by rw [hw,grow_empty])).2⟩

set_option maxHeartbeats 2000000 in
theorem batchFault_any (v:Value) (ds:List TxnD) (w:World) (h:TxnsAt w v ds) (hl:ds.length + sumA ds≤1048576) :
  Calls Tryz.prog 72 #[v] w fun e w' => e=.returned (.int .i64 (batF ds))∧Below w.heap.size w w' := by
 have hid:=implIdsOf_any v ds w h hl
 obtain ⟨a,cap,rfl⟩:=h.shape
 by_cases hlo:ds.length < 1
 ·rw [batF_many (Or.inl hlo)]
  clear hid
  go_enter Tryz.func72,Tryz.ntmps72
  go_wp2
  go_ret
  exact ⟨rfl,Below.refl _ _⟩
 ·by_cases hhi:4 < ds.length
  ·rw [batF_many (Or.inr hhi)]
   clear hid
   go_enter Tryz.func72,Tryz.ntmps72
   go_wp2
   go_ret
   exact ⟨rfl,Below.refl _ _⟩
  ·have HB:Hid (batF ds=if allF ds=0 then (if (ds.map TxnD.id).Nodup then 0 else 6) else allF ds):=batF_few (by omega)
   generalize batF ds=E at HB ⊢
   have hC:idsC ds=allF ds:=if_neg (by omega)
   have hlo' : 1≤ds.length:=by omega
   have hhi' : ds.length≤4:=by omega
   clear hlo hhi
   rw [hC] at hid
   have hR:allF ds=0→idsR ds=ds.map TxnD.id:=fun h0=>by
    unfold idsR
    rw [if_pos (by rw [hC];exact h0)]
   have hRl:(idsR ds).length≤4:=Nat.le_trans (idsR_le ds) hhi'
   have HID:Hid (allF ds=0→(idsR ds).length=ds.length∧(E=if (idsR ds).Nodup then 0 else 6)):=fun h0=>by
    rw [hR h0]
    refine ⟨by simp,?_⟩
    have:=HB.out
    rw [if_pos h0] at this
    exact this
   have HNE:Hid (allF ds≠0→E=allF ds):=fun h0=>by
    have:=HB.out
    rw [if_neg h0] at this
    exact this
   clear HB hR hC
   generalize idsR ds=L at *
   generalize allF ds=C at *
   go_enter Tryz.func72,Tryz.ntmps72
   go_wp2_with fail
   refine hid.mono ?_
   rintro e w1 ⟨b,c,rfl,ho,hb1⟩
   clear hid
   have B:=Blk.new w1 151 #[.int .i64 C,.slice b L.length c]
   have hb2:=hb1.alloc hb1.size (.cells #[.int .i64 C,.slice b L.length c] 151)
   by_cases h0:C=0
   ·subst h0
    obtain ⟨hLn,hE⟩:=HID.out rfl
    have HE:Hid (E=if L.Nodup then 0 else 6):=hE
    have HL:Hid (L.length=ds.length):=hLn
    have ho2:=own_below ho ((Below.refl w1.heap.size w1).alloc (Nat.le_refl _) (.cells #[.int .i64 0,.slice b L.length c] 151))
    obtain ⟨g,hg⟩:∃ g,b=some ⟨g,0,none⟩:=by
     rcases ho.2 with ⟨_,hn⟩ | ⟨g,_,_,he,_⟩
     ·omega
     ·simp only [Value.slice.injEq] at he
      exact ⟨g,he.1⟩
    subst hg
    have hgl:=ho.lt g rfl
    have hst:=sort6_any g c _ L _ ho2 (by omega)
    clear HID HNE hE hLn ho ho2
    go_wp2_with fail
    generalize w1.alloc (.cells #[.int .i64 0,.slice (some ⟨g,0,none⟩) L.length c] 151)=W at *
    refine hst.mono ?_
    rintro e w3 ⟨rfl,ys,hperm,hsort,o3,u3⟩
    have hyl:ys.length=L.length:=hperm.length_eq
    have HC:Hid (((Lib.compact ys).length < L.length→E=6)∧(¬ (Lib.compact ys).length < L.length→E=0)):=by
     obtain ⟨c1,c2⟩:=compact_len ys hsort
     have hnd:=hperm.nodup_iff
     refine ⟨fun hx=>?_,fun hx=>?_⟩
     ·have hn:¬ ys.Nodup:=fun hn=>by have:=c1 hn;omega
      rw [HE.out,if_neg (fun e=>hn (hnd.2 e))]
     ·have hn:ys.Nodup:=Classical.byContradiction (fun hn=>hx (by have:=c2 hn;omega))
      rw [HE.out,if_pos (hnd.1 hn)]
    have hcp:=compact6_any g c _ ys w3 (by rw [hyl];exact o3) (by omega)
    rw [hyl] at hcp
    have hne:w1.heap.size≠g:=by omega
    have B3:Blk w3 w1.heap.size 151 #[.int .i64 0,.slice (some ⟨g,0,none⟩) L.length c]:=(u3.block _ B.lt (by simp only [List.mem_singleton];exact hne)).trans B
    have hb3:Below w.heap.size w w3:=Out.keep hb2 u3 hb2.size (fun k hk=>by simp only [List.mem_singleton] at hk;omega)
    have p1:=B3.cell 1 _ rfl
    generalize (Lib.compact ys).length=m at *
    clear hst HE o3 u3 B hperm hsort hyl hb1 hb2
    go_wp2_with fail
    refine hcp.mono ?_
    rintro e w4 ⟨rfl,u4⟩
    have hb4:Below w.heap.size w w4:=Out.keep hb3 u4 hb3.size (fun k hk=>by simp only [List.mem_singleton] at hk;omega)
    clear hcp u4 B3 hb3 p1
    have hLd:=HL.out
    by_cases hm:m < ds.length
    ·have E2:Hid (E=6):=HC.out.1 (by omega)
     clear HC
     go_wp2
     go_ret
     exact ⟨by rw [E2.out];rfl,hb4⟩
    ·have E2:Hid (E=0):=HC.out.2 (by omega)
     clear HC
     go_wp2
     go_ret
     exact ⟨by rw [E2.out];rfl,hb4⟩
   ·have E2:Hid (E=C):=HNE.out h0
    have h0' : (C != 0)=true:=by simpa using h0
    clear HID HNE h0 ho
    go_wp2
    go_ret
    exact ⟨by rw [E2.out];rfl,hb2⟩

end Go.Proofs.YtdhdnppbgaikfaaGreatDoor
namespace Go.Proofs.YtdhdnppbgaikfaaGreatDoor
open Go.RowKit
open Go.BigFrame
set_option maxRecDepth 100000
/-- A pointer to an instance. -/
structure InstP (w:World) (b o:Nat) (p:InstQ):Prop where
 box:Box4 w b o (.bool p.has) p.vb p.vr p.vd
 rd:instK.rd w p

theorem InstP.below {w w' : World} {b o:Nat} {p:InstQ} (h:InstP w b o p) (hb:Below w.heap.size w w'):InstP w' b o p:=⟨h.box.below hb,instK.rd_below h.rd hb⟩

theorem InstP.batch {w:World} {b o:Nat} {p:InstQ} (h:InstP w b o p):txnK.At w p.vb p.batch:=h.rd.1

theorem InstP.rounds {w:World} {b o:Nat} {p:InstQ} (h:InstP w b o p):roundK.At w p.vr p.rounds:=h.rd.2.1

theorem InstP.dec {w:World} {b o:Nat} {p:InstQ} (h:InstP w b o p):intK.At w p.vd p.dec:=h.rd.2.2

theorem rnd_at (rs:List RoundQ) (r:Nat) (hr:r < rs.length):(rs.map RoundQ.e).getD r rnd0=RoundQ.e rs[r]:=by simp [List.getD,hr]

theorem nmR_le (rs:List RoundQ) (r:Nat) (hr:r < rs.length):rs[r].rep.length + rs[r].pro.length≤nmL RoundQ.n rs:=nm_le RoundQ.n rs r hr

theorem rndsF_first (ds:List RoundE):∀ k,(∀ j,j < k→vf (ds.getD j rnd0).rep 1=0∧vf (ds.getD j rnd0).pro 2=0)→k < ds.length→(vf (ds.getD k rnd0).rep 1≠0→rndsF ds=vf (ds.getD k rnd0).rep 1)∧(vf (ds.getD k rnd0).rep 1=0→vf (ds.getD k rnd0).pro 2≠0→rndsF ds=vf (ds.getD k rnd0).pro 2):=by
 induction ds with
 | nil=>intro k _ h;simp at h
 | cons x r ih=>
  intro k h0 hk
  cases k with
  | zero=>
   simp only [List.getD_cons_zero]
   unfold rndsF
   exact ⟨fun h=>by rw [if_neg h],fun h h2=>by rw [if_pos h,if_neg h2]⟩
  | succ k=>
   have hx:=h0 0 (by omega)
   simp only [List.getD_cons_zero] at hx
   have:=ih k (fun j hj=>by simpa using h0 (j + 1) (by omega)) (by simpa using hk)
   simp only [List.getD_cons_succ]
   rw [show rndsF (x :: r)=rndsF r by rw [rndsF,if_pos hx.1,if_pos hx.2]]
   exact this

theorem rndsF_none (ds:List RoundE) (h:∀ j,j < ds.length→vf (ds.getD j rnd0).rep 1=0∧vf (ds.getD j rnd0).pro 2=0):rndsF ds=0:=by
 induction ds with
 | nil=>rfl
 | cons x r ih=>
  have hx:=h 0 (by simp)
  simp only [List.getD_cons_zero] at hx
  rw [rndsF,if_pos hx.1,if_pos hx.2]
  exact ih (fun j hj=>by simpa using h (j + 1) (by simpa using hj))

set_option maxHeartbeats 4000000 in
theorem l6Shape_any (b o:Nat) (p:InstQ) (w:World) (hP:InstP w b o p) (hl:p.n≤1048576) :
  Calls Tryz.prog 59 #[.pointer (some ⟨b,o,none⟩)] w fun e w' => e=.returned (.int .i64 (shpF p.e))∧Below w.heap.size w w' := by
 have hB:Below w.heap.size w w:=Below.refl _ _
 obtain ⟨has,vb,batch,vr,rounds,vd,dec⟩:=p
 dsimp only [InstQ.n] at hl
 have HE:Hid (shpF (InstQ.e ⟨has,vb,batch,vr,rounds,vd,dec⟩)=if has=false∧0 < (batch.map TxnQ.e).length then 1 else
  if has=true∧batF (batch.map TxnQ.e)≠0 then batF (batch.map TxnQ.e) else
  if (rounds.map RoundQ.e).length < 1∨4 < (rounds.map RoundQ.e).length then 2 else
  if rndsF (rounds.map RoundQ.e)=0 then vf dec 1 else rndsF (rounds.map RoundQ.e)):=by
  exact (rfl:shpF _=_)
 generalize shpF (InstQ.e ⟨has,vb,batch,vr,rounds,vd,dec⟩)=E at HE ⊢
 have hv:=l6Batch_any vb (batch.map TxnQ.e) w (txnsAt_of hP.batch) (by rw [List.length_map,sumA_of];omega)
 have hsb:∃ a c,vb=.slice a batch.length c:=hP.batch.shape
 have hsr:∃ a c,vr=.slice a rounds.length c:=hP.rounds.shape
 have hsd:∃ a c,vd=.slice a dec.length c:=hP.dec.shape
 obtain ⟨ba,bk,rfl⟩:=hsb
 obtain ⟨va,vk,rfl⟩:=hsr
 cases has with
 | false=>
  by_cases h0:0 < batch.length
  ·have E1:Hid (E=1):=by rw [HE.out,if_pos ⟨rfl,by simpa using h0⟩];rfl
   obtain ⟨c0,c1,c2,c3⟩:=hP.box
   dsimp only at c0 c1 c2 c3
   clear HE hv
   go_enter Tryz.func59,Tryz.ntmps59
   go_wp2
   go_ret
   exact ⟨by rw [E1.out];rfl,hB⟩
  ·have HS:Hid (E=if (rounds.map RoundQ.e).length < 1∨4 < (rounds.map RoundQ.e).length then 2 else if rndsF (rounds.map RoundQ.e)=0 then vf dec 1 else rndsF (rounds.map RoundQ.e)):=by
    have:=HE.out
    rw [if_neg (fun h=>h0 (by simpa using h.2)),if_neg (by simp)] at this
    exact this
   clear HE
   obtain ⟨c0,c1,c2,c3⟩:=hP.box
   dsimp only at c0 c1 c2 c3
   have h0' : ¬ (0:Int) < batch.length:=by omega
   go_enter Tryz.func59,Tryz.ntmps59
   clear c0 c1 c2 c3
   by_cases hr1:rounds.length < 1
   ·have E2:Hid (E=2):=by rw [HS.out,if_pos (Or.inl (by simpa using hr1))];rfl
    obtain ⟨c0,c1,c2,c3⟩:=hP.box
    dsimp only at c0 c1 c2 c3
    clear HS hv
    go_wp2
    go_ret
    exact ⟨by rw [E2.out];rfl,hB⟩
   ·by_cases hr4:4 < rounds.length
    ·have E2:Hid (E=2):=by rw [HS.out,if_pos (Or.inr (by simpa using hr4))];rfl
     obtain ⟨c0,c1,c2,c3⟩:=hP.box
     dsimp only at c0 c1 c2 c3
     clear HS hv
     go_wp2
     go_ret
     exact ⟨by rw [E2.out];rfl,hB⟩
    ·have HS2:Hid (E=if rndsF (rounds.map RoundQ.e)=0 then vf dec 1 else rndsF (rounds.map RoundQ.e)):=by
      have:=HS.out
      rw [if_neg (by simp only [List.length_map];omega)] at this
      exact this
     have hr1' : ¬ (rounds.length:Int) < 1:=by omega
     have hr4' : ¬ (4:Int) < rounds.length:=by omega
     clear HS hr1 hr4
     obtain ⟨c0,c1,c2,c3⟩:=hP.box
     dsimp only at c0 c1 c2 c3
     go_wp2
     clear c0 c1 c2 c3
     go_loopw [4] (fun j wr=>∃ k:Nat,k≤rounds.length∧j=.int .i64 k∧Hid (∀ j,j < k→vf ((rounds.map RoundQ.e).getD j rnd0).rep 1=0∧vf ((rounds.map RoundQ.e).getD j rnd0).pro 2=0)∧Below w.heap.size w wr) (fun j _=>rounds.length - (intOf j).toNat)
     case atStart=>exact ⟨0,Nat.zero_le _,rfl,fun j hj=>absurd hj (Nat.not_lt_zero _),Below.refl _ _⟩
     case round=>
      obtain ⟨k,hk,rfl,HA,hb⟩:=hrel
      have hPr:=hP.below hb
      have hBr:=hB.trans (hb.mono hB.size)
      obtain ⟨c0,c1,c2,c3⟩:=hPr.box
      dsimp only at c0 c1 c2 c3
      by_cases hlt:k < rounds.length
      ·obtain ⟨rb,ro,rfl,hbs,hc,hrd⟩:=hPr.rounds.cell (by decide) k hlt
       have hc' : ∀ j x,(roundK.cells rounds[k])[j]? = some x→wr.cell? ⟨rb,ro + k * 2 + j,none⟩=some x:=hc
       have r0:=hc' 0 (rounds[k].vr) rfl
       have r1:=hc' 1 (rounds[k].vp) rfl
       have hnm:=nmR_le rounds k hlt
       have hfst:=rndsF_first (rounds.map RoundQ.e) k HA.out (by simpa using hlt)
       rw [rnd_at rounds k hlt] at hfst
       dsimp only [RoundQ.e] at hfst
       have HF1:Hid (vf rounds[k].rep 1≠0→E=vf rounds[k].rep 1):=fun h=>by rw [HS2.out,hfst.1 h,if_neg h]
       have HF2:Hid (vf rounds[k].rep 1=0→vf rounds[k].pro 2≠0→E=vf rounds[k].pro 2):=fun h h2=>by rw [HS2.out,hfst.2 h h2,if_neg h2]
       have HN:Hid (vf rounds[k].rep 1=0→vf rounds[k].pro 2=0→∀ j,j < k + 1→vf ((rounds.map RoundQ.e).getD j rnd0).rep 1=0∧vf ((rounds.map RoundQ.e).getD j rnd0).pro 2=0):=by
        intro h1 h2 j hj
        by_cases hjk:j=k
        ·subst hjk
         rw [rnd_at rounds j hlt]
         exact ⟨h1,h2⟩
        ·exact HA.out j (by omega)
       clear HA hfst hc hc'
       generalize rounds[k]=q at *
       obtain ⟨qv,qr,qw,qp⟩:=q
       obtain ⟨rA,rP⟩:intK.At wr qv qr∧intK.At wr qw qp:=hrd
       dsimp only at *
       obtain ⟨ra,rk,rfl⟩:=rA.shape
       obtain ⟨pa,pk,rfl⟩:=rP.shape
       have hv1:=l5Votes_any ra rk qr 1 wr (intK_at rA).2 (by omega)
       rw [Nat.add_zero] at r0
       go_wp2_with fail
       refine hv1.mono ?_
       rintro e w2 ⟨rfl,hb2⟩
       have hPr2:=hPr.below hb2
       have hBr2:=hBr.trans (hb2.mono hBr.size)
       have hrb:=World.block_lt_of_cell? wr _ r1
       replace r1:=(hb2.cell (p:=⟨rb,ro + k * 2 + 1,none⟩) hrb).trans r1
       replace hb:=hb.trans (hb2.mono hb.size)
       have hv2:=l5Votes_any pa pk qp 2 w2 (intK_at (rP.below hb2)).2 (by omega)
       clear hv1 c0 c1 c2 c3 r0 hb2 hPr hBr rA rP
       obtain ⟨c0,c1,c2,c3⟩:=hPr2.box
       dsimp only at c0 c1 c2 c3
       by_cases h1:vf qr 1=0
       ·have HF:Hid (vf qp 2≠0→E=vf qp 2):=HF2.out h1
        have HM:Hid (vf qp 2=0→_):=HN.out h1
        rw [h1]
        clear HF1 HF2 HN h1
        go_wp2_with fail
        refine hv2.mono ?_
        rintro e w3 ⟨rfl,hb3⟩
        replace hb:=hb.trans (hb3.mono hb.size)
        replace hBr2:=hBr2.trans (hb3.mono hBr2.size)
        clear hv2 c0 c1 c2 c3 r1 hb3 hPr2
        by_cases h2:vf qp 2=0
        ·have R:=HM.out h2
         have HR:Hid _:=R
         rw [h2]
         clear HF HM R h2
         go_wp2
         go_roundw
         case rel=>exact ⟨k + 1,by omega,by go_num,HR.out,hb⟩
         case measure=>simp [intOf];omega
        ·have E2:Hid (E=vf qp 2):=HF.out h2
         have h2' : (vf qp 2 != 0)=true:=by simpa using h2
         clear HF HM h2
         generalize vf qp 2=r at *
         go_wp2
         go_ret
         exact ⟨by rw [E2.out];rfl,hBr2⟩
       ·have E2:Hid (E=vf qr 1):=HF1.out h1
        have h1' : (vf qr 1 != 0)=true:=by simpa using h1
        clear HF1 HF2 HN h1 hv2
        generalize vf qr 1=r at *
        go_wp2
        go_ret
        exact ⟨by rw [E2.out];rfl,hBr2⟩
      ·have hkl:k=rounds.length:=by omega
       subst hkl
       have E2:Hid (E=vf dec 1):=by
        have:=HS2.out
        rw [if_pos (rndsF_none _ (by simpa using HA.out))] at this
        exact this
       have hdec:intK.At wr vd dec:=hPr.dec
       obtain ⟨da,dk,rfl⟩:=hdec.shape
       have hv1:=l5Votes_any da dk dec 1 wr (intK_at hdec).2 (by omega)
       clear HA HS2 hdec
       go_wp2_with fail
       refine hv1.mono ?_
       rintro e w2 ⟨rfl,hb2⟩
       replace hBr:=hBr.trans (hb2.mono hBr.size)
       generalize vf dec 1=r at *
       clear hv1 c0 c1 c2 c3 hb2 hPr
       go_wp2
       go_ret
       exact ⟨by rw [E2.out];rfl,hBr⟩
 | true=>
  obtain ⟨c0,c1,c2,c3⟩:=hP.box
  dsimp only at c0 c1 c2 c3
  go_enter Tryz.func59,Tryz.ntmps59
  go_wp2_with fail
  refine hv.mono ?_
  rintro e w1 ⟨rfl,hb1⟩
  replace hP:=hP.below hb1
  replace hB:=hB.trans (hb1.mono hB.size)
  clear hv hb1 c0 c1 c2 c3
  by_cases h1:batF (batch.map TxnQ.e)=0
  ·have HS:Hid (E=if (rounds.map RoundQ.e).length < 1∨4 < (rounds.map RoundQ.e).length then 2 else if rndsF (rounds.map RoundQ.e)=0 then vf dec 1 else rndsF (rounds.map RoundQ.e)):=by
    have:=HE.out
    rw [if_neg (by simp),if_neg (fun h=>h.2 h1)] at this
    exact this
   rw [h1]
   clear HE h1
   have hv:=True.intro
   by_cases hr1:rounds.length < 1
   ·have E2:Hid (E=2):=by rw [HS.out,if_pos (Or.inl (by simpa using hr1))];rfl
    obtain ⟨c0,c1,c2,c3⟩:=hP.box
    dsimp only at c0 c1 c2 c3
    clear HS hv
    go_wp2
    go_ret
    exact ⟨by rw [E2.out];rfl,hB⟩
   ·by_cases hr4:4 < rounds.length
    ·have E2:Hid (E=2):=by rw [HS.out,if_pos (Or.inr (by simpa using hr4))];rfl
     obtain ⟨c0,c1,c2,c3⟩:=hP.box
     dsimp only at c0 c1 c2 c3
     clear HS hv
     go_wp2
     go_ret
     exact ⟨by rw [E2.out];rfl,hB⟩
    ·have HS2:Hid (E=if rndsF (rounds.map RoundQ.e)=0 then vf dec 1 else rndsF (rounds.map RoundQ.e)):=by
      have:=HS.out
      rw [if_neg (by simp only [List.length_map];omega)] at this
      exact this
     have hr1' : ¬ (rounds.length:Int) < 1:=by omega
     have hr4' : ¬ (4:Int) < rounds.length:=by omega
     clear HS hr1 hr4
     obtain ⟨c0,c1,c2,c3⟩:=hP.box
     dsimp only at c0 c1 c2 c3
     go_wp2
     clear c0 c1 c2 c3
     go_loopw [4] (fun j wr=>∃ k:Nat,k≤rounds.length∧j=.int .i64 k∧Hid (∀ j,j < k→vf ((rounds.map RoundQ.e).getD j rnd0).rep 1=0∧vf ((rounds.map RoundQ.e).getD j rnd0).pro 2=0)∧Below w1.heap.size w1 wr) (fun j _=>rounds.length - (intOf j).toNat)
     case atStart=>exact ⟨0,Nat.zero_le _,rfl,fun j hj=>absurd hj (Nat.not_lt_zero _),Below.refl _ _⟩
     case round=>
      obtain ⟨k,hk,rfl,HA,hb⟩:=hrel
      have hPr:=hP.below hb
      have hBr:=hB.trans (hb.mono hB.size)
      obtain ⟨c0,c1,c2,c3⟩:=hPr.box
      dsimp only at c0 c1 c2 c3
      by_cases hlt:k < rounds.length
      ·obtain ⟨rb,ro,rfl,hbs,hc,hrd⟩:=hPr.rounds.cell (by decide) k hlt
       have hc' : ∀ j x,(roundK.cells rounds[k])[j]? = some x→wr.cell? ⟨rb,ro + k * 2 + j,none⟩=some x:=hc
       have r0:=hc' 0 (rounds[k].vr) rfl
       have r1:=hc' 1 (rounds[k].vp) rfl
       have hnm:=nmR_le rounds k hlt
       have hfst:=rndsF_first (rounds.map RoundQ.e) k HA.out (by simpa using hlt)
       rw [rnd_at rounds k hlt] at hfst
       dsimp only [RoundQ.e] at hfst
       have HF1:Hid (vf rounds[k].rep 1≠0→E=vf rounds[k].rep 1):=fun h=>by rw [HS2.out,hfst.1 h,if_neg h]
       have HF2:Hid (vf rounds[k].rep 1=0→vf rounds[k].pro 2≠0→E=vf rounds[k].pro 2):=fun h h2=>by rw [HS2.out,hfst.2 h h2,if_neg h2]
       have HN:Hid (vf rounds[k].rep 1=0→vf rounds[k].pro 2=0→∀ j,j < k + 1→vf ((rounds.map RoundQ.e).getD j rnd0).rep 1=0∧vf ((rounds.map RoundQ.e).getD j rnd0).pro 2=0):=by
        intro h1 h2 j hj
        by_cases hjk:j=k
        ·subst hjk
         rw [rnd_at rounds j hlt]
         exact ⟨h1,h2⟩
        ·exact HA.out j (by omega)
       clear HA hfst hc hc'
       generalize rounds[k]=q at *
       obtain ⟨qv,qr,qw,qp⟩:=q
       obtain ⟨rA,rP⟩:intK.At wr qv qr∧intK.At wr qw qp:=hrd
       dsimp only at *
       obtain ⟨ra,rk,rfl⟩:=rA.shape
       obtain ⟨pa,pk,rfl⟩:=rP.shape
       have hv1:=l5Votes_any ra rk qr 1 wr (intK_at rA).2 (by omega)
       rw [Nat.add_zero] at r0
       go_wp2_with fail
       refine hv1.mono ?_
       rintro e w2 ⟨rfl,hb2⟩
       have hPr2:=hPr.below hb2
       have hBr2:=hBr.trans (hb2.mono hBr.size)
       have hrb:=World.block_lt_of_cell? wr _ r1
       replace r1:=(hb2.cell (p:=⟨rb,ro + k * 2 + 1,none⟩) hrb).trans r1
       replace hb:=hb.trans (hb2.mono hb.size)
       have hv2:=l5Votes_any pa pk qp 2 w2 (intK_at (rP.below hb2)).2 (by omega)
       clear hv1 c0 c1 c2 c3 r0 hb2 hPr hBr rA rP
       obtain ⟨c0,c1,c2,c3⟩:=hPr2.box
       dsimp only at c0 c1 c2 c3
       by_cases h1:vf qr 1=0
       ·have HF:Hid (vf qp 2≠0→E=vf qp 2):=HF2.out h1
        have HM:Hid (vf qp 2=0→_):=HN.out h1
        rw [h1]
        clear HF1 HF2 HN h1
        go_wp2_with fail
        refine hv2.mono ?_
        rintro e w3 ⟨rfl,hb3⟩
        replace hb:=hb.trans (hb3.mono hb.size)
        replace hBr2:=hBr2.trans (hb3.mono hBr2.size)
        clear hv2 c0 c1 c2 c3 r1 hb3 hPr2
        by_cases h2:vf qp 2=0
        ·have R:=HM.out h2
         have HR:Hid _:=R
         rw [h2]
         clear HF HM R h2
         go_wp2
         go_roundw
         case rel=>exact ⟨k + 1,by omega,by go_num,HR.out,hb⟩
         case measure=>simp [intOf];omega
        ·have E2:Hid (E=vf qp 2):=HF.out h2
         have h2' : (vf qp 2 != 0)=true:=by simpa using h2
         clear HF HM h2
         generalize vf qp 2=r at *
         go_wp2
         go_ret
         exact ⟨by rw [E2.out];rfl,hBr2⟩
       ·have E2:Hid (E=vf qr 1):=HF1.out h1
        have h1' : (vf qr 1 != 0)=true:=by simpa using h1
        clear HF1 HF2 HN h1 hv2
        generalize vf qr 1=r at *
        go_wp2
        go_ret
        exact ⟨by rw [E2.out];rfl,hBr2⟩
      ·have hkl:k=rounds.length:=by omega
       subst hkl
       have E2:Hid (E=vf dec 1):=by
        have:=HS2.out
        rw [if_pos (rndsF_none _ (by simpa using HA.out))] at this
        exact this
       have hdec:intK.At wr vd dec:=hPr.dec
       obtain ⟨da,dk,rfl⟩:=hdec.shape
       have hv1:=l5Votes_any da dk dec 1 wr (intK_at hdec).2 (by omega)
       clear HA HS2 hdec
       go_wp2_with fail
       refine hv1.mono ?_
       rintro e w2 ⟨rfl,hb2⟩
       replace hBr:=hBr.trans (hb2.mono hBr.size)
       generalize vf dec 1=r at *
       clear hv1 c0 c1 c2 c3 hb2 hPr
       go_wp2
       go_ret
       exact ⟨by rw [E2.out];rfl,hBr⟩
  ·have E1:Hid (E=batF (batch.map TxnQ.e)):=by
    have:=HE.out
    rw [if_neg (by simp),if_pos ⟨by simp,h1⟩] at this
    exact this
   have h1' : (batF (batch.map TxnQ.e) != 0)=true:=by simpa using h1
   clear HE h1
   generalize batF (batch.map TxnQ.e)=r at *
   go_wp2
   go_ret
   exact ⟨by rw [E1.out];rfl,hB⟩

end Go.Proofs.YtdhdnppbgaikfaaGreatDoor

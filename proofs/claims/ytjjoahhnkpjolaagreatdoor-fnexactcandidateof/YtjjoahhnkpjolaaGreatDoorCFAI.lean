/- Texts joined, with what the laws reach alone. -/
import Derived.Test.YtjjoahhnkpjolaaGreatDoorCFAH
import Derived.Shelf.SortM.Plain
import Derived.Shelf.SortM.SortNone
import Derived.Shelf.SlicesG.In.CompactI
import Derived.Sort.EveryDepth
set_option linter.unusedVariables false
set_option linter.unusedSimpArgs false
namespace Go.Proofs.YtjjoahhnkpjolaaGreatDoor
open Go.RowKit Go.Sort Go.Shelf
set_option maxRecDepth 100000
def shSort_ren:Go.Shelf.Ren:=⟨fun | 5=>202 | 8=>230 | 7=>229 | 19=>252 | 20=>253 | 10=>243 | 11=>244 | 12=>245 | 13=>246 | 14=>247 | 15=>248 | 16=>249 | 17=>250 | 18=>251 | 30=>265 | 31=>266 | 32=>267 | 33=>268 | 34=>269 | 35=>270 | 40=>277 | n=>n,fun | 23=>75 | 25=>2 | 3=>3 | 32=>276 | 22=>75 | 0=>0 | 44=>346 | 46=>329 | 4=>4 | 36=>339 | 35=>338 | 41=>343 | 5=>5 | 9=>9 | 53=>360 | 57=>364 | 63=>370 | 64=>371 | n=>n,fun | n=>n⟩

theorem shSort:Go.Proofs.SlLaysM.n5 Tryz.prog shSort_ren:={
 mixed:=by kernel_rfl,
 f5:=⟨Tryz.f202.name,by decide,Tryz.func202.trans (congrArg some (by kernel_rfl))⟩,
 f7:=⟨Tryz.f229.name,by decide,Tryz.func229.trans (congrArg some (by kernel_rfl))⟩,
 f8:=Tryz.func230.trans (congrArg some (by kernel_rfl)),
 f10:=⟨Tryz.f243.name,by decide,Tryz.func243.trans (congrArg some (by kernel_rfl))⟩,
 f11:=⟨Tryz.f244.name,by decide,Tryz.func244.trans (congrArg some (by kernel_rfl))⟩,
 f12:=⟨Tryz.f245.name,by decide,Tryz.func245.trans (congrArg some (by kernel_rfl))⟩,
 f13:=⟨Tryz.f246.name,by decide,Tryz.func246.trans (congrArg some (by kernel_rfl))⟩,
 f14:=⟨Tryz.f247.name,by decide,Tryz.func247.trans (congrArg some (by kernel_rfl))⟩,
 f15:=⟨Tryz.f248.name,by decide,Tryz.func248.trans (congrArg some (by kernel_rfl))⟩,
 f16:=⟨Tryz.f249.name,by decide,Tryz.func249.trans (congrArg some (by kernel_rfl))⟩,
 f17:=⟨Tryz.f250.name,by decide,Tryz.func250.trans (congrArg some (by kernel_rfl))⟩,
 f18:=⟨Tryz.f251.name,by decide,Tryz.func251.trans (congrArg some (by kernel_rfl))⟩,
 f19:=Tryz.func252.trans (congrArg some (by kernel_rfl)),
 f20:=Tryz.func253.trans (congrArg some (by kernel_rfl)),
 f30:=⟨Tryz.f265.name,by decide,Tryz.func265.trans (congrArg some (by kernel_rfl))⟩,
 f31:=Tryz.func266.trans (congrArg some (by kernel_rfl)),
 f32:=Tryz.func267.trans (congrArg some (by kernel_rfl)),
 f33:=⟨Tryz.f268.name,by decide,Tryz.func268.trans (congrArg some (by kernel_rfl))⟩,
 f34:=⟨Tryz.f269.name,by decide,Tryz.func269.trans (congrArg some (by kernel_rfl))⟩,
 f35:=⟨Tryz.f270.name,by decide,Tryz.func270.trans (congrArg some (by kernel_rfl))⟩,
 f40:=⟨Tryz.f277.name,by decide,Tryz.func277.trans (congrArg some (by kernel_rfl))⟩,
 t0:=Tryz.underlying0,
 a0:=Tryz.isAgg0,
 z0:=Tryz.sizeOf0,
 v0:=Tryz.zeroValue0,
 t3:=Tryz.underlying3,
 a3:=Tryz.isAgg3,
 z3:=Tryz.sizeOf3,
 v3:=Tryz.zeroValue3,
 t4:=Tryz.underlying4,
 a4:=Tryz.isAgg4,
 z4:=Tryz.sizeOf4,
 v4:=Tryz.zeroValue4,
 t5:=Tryz.underlying5,
 a5:=Tryz.isAgg5,
 z5:=Tryz.sizeOf5,
 v5:=Tryz.zeroValue5,
 t9:=Tryz.underlying9,
 a9:=Tryz.isAgg9,
 z9:=Tryz.sizeOf9,
 v9:=Tryz.zeroValue9,
 t22:=Tryz.underlying75,
 a22:=Tryz.isAgg75,
 z22:=Tryz.sizeOf75,
 v22:=Tryz.zeroValue75,
 t23:=Tryz.underlying75,
 a23:=Tryz.isAgg75,
 z23:=Tryz.sizeOf75,
 v23:=Tryz.zeroValue75,
 t25:=Tryz.underlying2,
 a25:=Tryz.isAgg2,
 z25:=Tryz.sizeOf2,
 v25:=Tryz.zeroValue2,
 t32:=Tryz.underlying276,
 a32:=Tryz.isAgg276,
 z32:=Tryz.sizeOf276,
 v32:=Tryz.zeroValue276,
 t35:=Tryz.underlying338,
 a35:=Tryz.isAgg338,
 z35:=Tryz.sizeOf338,
 v35:=Tryz.zeroValue338,
 t36:=Tryz.underlying339,
 a36:=Tryz.isAgg339,
 z36:=Tryz.sizeOf339,
 v36:=Tryz.zeroValue339,
 t41:=Tryz.underlying343,
 a41:=Tryz.isAgg343,
 z41:=Tryz.sizeOf343,
 v41:=Tryz.zeroValue343,
 t44:=Tryz.underlying346,
 a44:=Tryz.isAgg346,
 z44:=Tryz.sizeOf346,
 v44:=Tryz.zeroValue346,
 t46:=Tryz.underlying329,
 a46:=Tryz.isAgg329,
 z46:=Tryz.sizeOf329,
 v46:=Tryz.zeroValue329,
 t53:=Tryz.underlying360,
 a53:=Tryz.isAgg360,
 z53:=Tryz.sizeOf360,
 v53:=Tryz.zeroValue360,
 t57:=Tryz.underlying364,
 a57:=Tryz.isAgg364,
 z57:=Tryz.sizeOf364,
 v57:=Tryz.zeroValue364,
 t63:=Tryz.underlying370,
 a63:=Tryz.isAgg370,
 z63:=Tryz.sizeOf370,
 v63:=Tryz.zeroValue370,
 t64:=Tryz.underlying371,
 a64:=Tryz.isAgg371,
 z64:=Tryz.sizeOf371,
 v64:=Tryz.zeroValue371 }

def shComp_ren:Go.Shelf.Ren:=⟨fun | 43=>203 | n=>n,fun | 22=>75 | 23=>2 | 3=>3 | 4=>4 | 0=>0 | n=>n,fun | n=>n⟩

theorem shComp:Go.Proofs.SlLaysN.n43 Tryz.prog shComp_ren:={
 mixed:=by kernel_rfl,
 f43:=⟨Tryz.f203.name,by decide,Tryz.func203.trans (congrArg some (by kernel_rfl))⟩,
 t0:=Tryz.underlying0,
 a0:=Tryz.isAgg0,
 z0:=Tryz.sizeOf0,
 v0:=Tryz.zeroValue0,
 t3:=Tryz.underlying3,
 a3:=Tryz.isAgg3,
 z3:=Tryz.sizeOf3,
 v3:=Tryz.zeroValue3,
 t4:=Tryz.underlying4,
 a4:=Tryz.isAgg4,
 z4:=Tryz.sizeOf4,
 v4:=Tryz.zeroValue4,
 t22:=Tryz.underlying75,
 a22:=Tryz.isAgg75,
 z22:=Tryz.sizeOf75,
 v22:=Tryz.zeroValue75,
 t23:=Tryz.underlying2,
 a23:=Tryz.isAgg2,
 z23:=Tryz.sizeOf2,
 v23:=Tryz.zeroValue2,
 i23:=by kernel_rfl }

end Go.Proofs.YtjjoahhnkpjolaaGreatDoor
namespace Go.Proofs.YtjjoahhnkpjolaaGreatDoor
open Go.RowKit
open Go.BigFrame
open Go.Sort
set_option maxRecDepth 100000
theorem sorted_nodup:∀ (L:List Int),L.Pairwise (· ≤ ·)→(∀ j,j + 1 < L.length→L.getD (j + 1) 0≠L.getD j 0)→L.Nodup
 | [],_,_=>List.nodup_nil
 | [a],_,_=>by simp
 | a :: b :: t,hs,hadj=>by
  rw [List.pairwise_cons] at hs
  have hab:a≠b:=fun e=>hadj 0 (by simp) (by simpa using e.symm)
  have ih:=sorted_nodup (b :: t) hs.2 (fun j hj=>by simpa using hadj (j + 1) (by simpa using hj))
  rw [List.nodup_cons]
  refine ⟨fun hm=>?_,ih⟩
  have h1:=hs.1 b (by simp)
  rcases List.mem_cons.1 hm with h | h
  ·exact hab h
  ·have h2:=(List.pairwise_cons.1 hs.2).1 a h
   omega

theorem getB (L:List Int) (j:Nat):L.toArray[j]! = L.getD j 0:=by
 rw [List.getElem!_toArray]
 by_cases h:j < L.length
 ·rw [getElem!_pos L j h];simp [List.getD,h]
 ·rw [getElem!_neg L j h];simp [List.getD,List.getElem?_eq_none (show L.length≤j by omega)]

/-- Of equal neighbours one stays: nothing goes just where none stands twice. -/
theorem compact_len (L:List Int) (hs:L.Pairwise (· ≤ ·)):(L.Nodup→(Lib.compact L).length=L.length)∧(¬ L.Nodup→(Lib.compact L).length < L.length):=by
 constructor
 ·intro h
  rw [Lib.compact_all]
  intro j hj
  unfold Lib.keeps
  rw [decide_eq_true_eq,getB,getB]
  by_cases h0:j=0
  ·exact Or.inl h0
  ·right
   intro e
   have e1:L.getD j 0=L[j]:=by simp [List.getD,hj]
   have e2:L.getD (j - 1) 0=L[j - 1]'(by omega):=by simp [List.getD,show j - 1 < L.length by omega]
   rw [e1,e2] at e
   exact List.pairwise_iff_getElem.1 h (j - 1) j (by omega) hj (by omega) e.symm
 ·intro h
  have hex:∃ j,j + 1 < L.length∧L.getD (j + 1) 0=L.getD j 0:=by
   apply Classical.byContradiction
   intro hn
   exact h (sorted_nodup L hs (fun j hj e=>hn ⟨j,hj,e⟩))
  obtain ⟨j,hj,e⟩:=hex
  unfold Lib.compact Lib.compactUpTo
  rw [List.length_map]
  have:=(List.length_filter_lt_length_iff_exists (p:=Lib.keeps L.toArray) (l:=List.range L.length)).2 ⟨j + 1,List.mem_range.2 hj,by
   unfold Lib.keeps
   rw [decide_eq_true_eq,getB,getB]
   rintro (h | h)
   ·omega
   ·exact h (by simpa using e)⟩
  rwa [List.length_range] at this

/-- A row that is written over in place. -/
theorem own_put {w w' : World} {base g n cap q:Nat} {zs ys:List Int} {os:Array Obj} (h:w.ownsRow base 2 1 (.slice (some ⟨g,0,none⟩) n cap) n (zs.map (Value.int .i64))) (hl:ys.length=n)
  (hw:w' = grow (putRow (Value.int .i64) (Sort.ahead w q) g 0 ys.toArray) os):w'.ownsRow base 2 1 (.slice (some ⟨g,0,none⟩) n cap) n (ys.map (Value.int .i64))∧Out [g] w w' := by
 rcases h.2 with ⟨he,hn⟩ | ⟨g',cap',cur,he,hb,hh,h1,h2,h3,h4⟩
 ·simp at he
 ·simp only [Value.slice.injEq,Option.some.injEq,Addr.mk.injEq,and_true,true_and] at he
  obtain ⟨rfl,rfl⟩:=he
  have hlt:g < w.heap.size:=(Array.getElem?_eq_some_iff.1 hh).1
  have hsz:(putRow (Value.int .i64) (Sort.ahead w q) g 0 ys.toArray).heap.size=w.heap.size:=by simp
  have hblk:∀ k,k < w.heap.size→w'.heap[k]? = (putRow (Value.int .i64) (Sort.ahead w q) g 0 ys.toArray).heap[k]? := fun k hk=>by
   rw [hw]
   exact Array.getElem?_append_left (by rw [hsz];exact hk)
  have hg:w'.heap[g]? = some (.cells (putCells (Value.int .i64) 0 ys.toArray cur) 2 (0,0)):=by
   rw [hblk g hlt]
   show (w.heap.modify g _)[g]? = _
   rw [Array.getElem?_modify,if_pos rfl,hh]
   rfl
  have hcs:(putCells (Value.int .i64) 0 ys.toArray cur).size=cur.size:=by simp [putCells]
  refine ⟨⟨by simp [hl],Or.inr ⟨g,cap,_,rfl,hb,hg,h1,h2,by rw [hcs];exact h3,?_⟩⟩,?_⟩
  ·apply List.ext_getElem?
   intro j
   by_cases hj:j < n
   ·rw [List.getElem?_take,if_pos (by omega),Array.getElem?_toList]
    simp only [putCells,Array.getElem?_mapIdx]
    rw [Array.getElem?_eq_getElem (by omega),Option.map_some,if_pos ⟨Nat.zero_le _,by rw [List.size_toArray];omega⟩]
    simp only [Nat.sub_zero]
    rw [getB,List.getElem?_map,List.getElem?_eq_getElem (by omega)]
    simp [List.getD,show j < ys.length by omega]
   ·rw [List.getElem?_eq_none (by simp;omega),List.getElem?_eq_none (by simp;omega)]
  ·refine ⟨by rw [hw];rfl,by rw [hw];rfl,by rw [hw];rfl,?_,fun k hk hn=>?_⟩
   ·rw [hw]
    show w.heap.size≤(_ ++ os).size
    rw [Array.size_append,hsz]
    omega
   ·rw [hblk k hk]
    show (w.heap.modify g _)[k]? = _
    rw [Array.getElem?_modify,if_neg (fun e=>hn (by simp [e]))]

theorem holds_own {w:World} {base g n cap:Nat} {zs:List Int} (h:w.ownsRow base 2 1 (.slice (some ⟨g,0,none⟩) n cap) n (zs.map (Value.int .i64))):Holds (Value.int .i64) w g 0 zs.toArray∧g < w.heap.size∧n≤cap:=by
 have hl:zs.length=n:=by have:=h.1;simpa using this
 refine ⟨fun j hj=>?_,?_,own_cap6 h⟩
 ·rw [List.size_toArray] at hj
  refine ⟨?_,h.frozenAt _⟩
  rw [Nat.zero_add,h.cellAt j (by omega),getB]
  simp [List.getD,hj]
 ·exact (h.lt g rfl).2

theorem sort6_any (g cap base:Nat) (zs:List Int) (w:World) (h:w.ownsRow base 2 1 (.slice (some ⟨g,0,none⟩) zs.length cap) zs.length (zs.map (Value.int .i64))) (hl:zs.length≤60) :
  Calls Tryz.prog 202 #[.slice (some ⟨g,0,none⟩) zs.length cap] w fun e w' => e=.returned (.tuple #[])∧∃ ys:List Int,ys.Perm zs∧ys.Pairwise (· ≤ ·)∧w'.ownsRow base 2 1 (.slice (some ⟨g,0,none⟩) zs.length cap) zs.length (ys.map (Value.int .i64))∧Out [g] w w' := by
 obtain ⟨hH,hlt,hc⟩:=holds_own h
 refine (AnyM.slices_Sort_int shSort g 0 cap zs w hH hlt (by omega)).mono ?_
 rintro e w' ⟨rfl,q,os,hw⟩
 obtain ⟨o,u⟩:=own_put h (by rw [List.length_mergeSort]) hw
 refine ⟨rfl,_,List.mergeSort_perm _ _,?_,o,u⟩
 have:=List.pairwise_mergeSort (le:=fun (x y:Int)=>decide (x≤y)) (fun a b c h1 h2=>by simp only [decide_eq_true_eq] at *;omega) (fun a b=>by simp only [Bool.or_eq_true,decide_eq_true_eq];omega) zs
 exact this.imp (fun h=>by simpa using h)

theorem compact6_any (g cap base:Nat) (zs:List Int) (w:World) (h:w.ownsRow base 2 1 (.slice (some ⟨g,0,none⟩) zs.length cap) zs.length (zs.map (Value.int .i64))) (hl:zs.length≤60) :
  Calls Tryz.prog 203 #[.slice (some ⟨g,0,none⟩) zs.length cap] w fun e w' => e=.returned (.slice (some ⟨g,0,none⟩) (Lib.compact zs).length cap)∧Out [g] w w' := by
 obtain ⟨hH,hlt,hc⟩:=holds_own h
 refine (calls_of_every_depth fun D=>AnySG.slices_Compact_int_in shComp D g 0 cap zs w hH (by omega) hc).mono ?_
 rintro e w' ⟨rfl,q,hw⟩
 have hle:(Lib.compact zs).length≤zs.length:=by
  unfold Lib.compact Lib.compactUpTo
  rw [List.length_map]
  exact Nat.le_trans (List.length_filter_le _ _) (by simp)
 exact ⟨rfl,(own_put (ys:=Lib.compact zs ++ List.replicate (zs.length - (Lib.compact zs).length) 0) (os:=#[]) h (by simp only [List.length_append,List.length_replicate];omega) (by rw [hw,grow_empty])).2⟩

set_option maxHeartbeats 2000000 in
theorem batchFault_any (v:Value) (ds:List TxnD) (w:World) (h:TxnsAt w v ds) (hl:ds.length + sumA ds≤1048576) :
  Calls Tryz.prog 167 #[v] w fun e w' => e=.returned (.int .i64 (batF ds))∧Below w.heap.size w w' := by
 have hid:=implIdsOf_any v ds w h hl
 obtain ⟨a,cap,rfl⟩:=h.shape
 by_cases hlo:ds.length < 1
 ·rw [batF_many (Or.inl hlo)]
  clear hid
  go_enter Tryz.func167,Tryz.ntmps167
  go_wp2
  go_ret
  exact ⟨rfl,Below.refl _ _⟩
 ·by_cases hhi:4 < ds.length
  ·rw [batF_many (Or.inr hhi)]
   clear hid
   go_enter Tryz.func167,Tryz.ntmps167
   go_wp2
   go_ret
   exact ⟨rfl,Below.refl _ _⟩
  ·have HB:Hid (batF ds=if allF ds=0 then (if (ds.map TxnD.id).Nodup then 0 else 6) else allF ds):=batF_few (by omega)
   generalize batF ds=E at HB ⊢
   have hC:idsC ds=allF ds:=if_neg (by omega)
   have hlo' : 1≤ds.length:=by omega
   have hhi' : ds.length≤4:=by omega
   clear hlo hhi
   rw [hC] at hid
   have hR:allF ds=0→idsR ds=ds.map TxnD.id:=fun h0=>by
    unfold idsR
    rw [if_pos (by rw [hC];exact h0)]
   have hRl:(idsR ds).length≤4:=Nat.le_trans (idsR_le ds) hhi'
   have HID:Hid (allF ds=0→(idsR ds).length=ds.length∧(E=if (idsR ds).Nodup then 0 else 6)):=fun h0=>by
    rw [hR h0]
    refine ⟨by simp,?_⟩
    have:=HB.out
    rw [if_pos h0] at this
    exact this
   have HNE:Hid (allF ds≠0→E=allF ds):=fun h0=>by
    have:=HB.out
    rw [if_neg h0] at this
    exact this
   clear HB hR hC
   generalize idsR ds=L at *
   generalize allF ds=C at *
   go_enter Tryz.func167,Tryz.ntmps167
   go_wp2_with fail
   refine hid.mono ?_
   rintro e w1 ⟨b,c,rfl,ho,hb1⟩
   clear hid
   have B:=Blk.new w1 290 #[.int .i64 C,.slice b L.length c]
   have hb2:=hb1.alloc hb1.size (.cells #[.int .i64 C,.slice b L.length c] 290)
   by_cases h0:C=0
   ·subst h0
    obtain ⟨hLn,hE⟩:=HID.out rfl
    have HE:Hid (E=if L.Nodup then 0 else 6):=hE
    have HL:Hid (L.length=ds.length):=hLn
    have ho2:=own_below ho ((Below.refl w1.heap.size w1).alloc (Nat.le_refl _) (.cells #[.int .i64 0,.slice b L.length c] 290))
    obtain ⟨g,hg⟩:∃ g,b=some ⟨g,0,none⟩:=by
     rcases ho.2 with ⟨_,hn⟩ | ⟨g,_,_,he,_⟩
     ·omega
     ·simp only [Value.slice.injEq] at he
      exact ⟨g,he.1⟩
    subst hg
    have hgl:=ho.lt g rfl
    have hst:=sort6_any g c _ L _ ho2 (by omega)
    clear HID HNE hE hLn ho ho2
    go_wp2_with fail
    generalize w1.alloc (.cells #[.int .i64 0,.slice (some ⟨g,0,none⟩) L.length c] 290)=W at *
    refine hst.mono ?_
    rintro e w3 ⟨rfl,ys,hperm,hsort,o3,u3⟩
    have hyl:ys.length=L.length:=hperm.length_eq
    have HC:Hid (((Lib.compact ys).length < L.length→E=6)∧(¬ (Lib.compact ys).length < L.length→E=0)):=by
     obtain ⟨c1,c2⟩:=compact_len ys hsort
     have hnd:=hperm.nodup_iff
     refine ⟨fun hx=>?_,fun hx=>?_⟩
     ·have hn:¬ ys.Nodup:=fun hn=>by have:=c1 hn;omega
      rw [HE.out,if_neg (fun e=>hn (hnd.2 e))]
     ·have hn:ys.Nodup:=Classical.byContradiction (fun hn=>hx (by have:=c2 hn;omega))
      rw [HE.out,if_pos (hnd.1 hn)]
    have hcp:=compact6_any g c _ ys w3 (by rw [hyl];exact o3) (by omega)
    rw [hyl] at hcp
    have hne:w1.heap.size≠g:=by omega
    have B3:Blk w3 w1.heap.size 290 #[.int .i64 0,.slice (some ⟨g,0,none⟩) L.length c]:=(u3.block _ B.lt (by simp only [List.mem_singleton];exact hne)).trans B
    have hb3:Below w.heap.size w w3:=Out.keep hb2 u3 hb2.size (fun k hk=>by simp only [List.mem_singleton] at hk;omega)
    have p1:=B3.cell 1 _ rfl
    generalize (Lib.compact ys).length=m at *
    clear hst HE o3 u3 B hperm hsort hyl hb1 hb2
    go_wp2_with fail
    refine hcp.mono ?_
    rintro e w4 ⟨rfl,u4⟩
    have hb4:Below w.heap.size w w4:=Out.keep hb3 u4 hb3.size (fun k hk=>by simp only [List.mem_singleton] at hk;omega)
    clear hcp u4 B3 hb3 p1
    have hLd:=HL.out
    by_cases hm:m < ds.length
    ·have E2:Hid (E=6):=HC.out.1 (by omega)
     clear HC
     go_wp2
     go_ret
     exact ⟨by rw [E2.out];rfl,hb4⟩
    ·have E2:Hid (E=0):=HC.out.2 (by omega)
     clear HC
     go_wp2
     go_ret
     exact ⟨by rw [E2.out];rfl,hb4⟩
   ·have E2:Hid (E=C):=HNE.out h0
    have h0' : (C != 0)=true:=by simpa using h0
    clear HID HNE h0 ho
    go_wp2
    go_ret
    exact ⟨by rw [E2.out];rfl,hb2⟩

end Go.Proofs.YtjjoahhnkpjolaaGreatDoor
namespace Go.Proofs.YtjjoahhnkpjolaaGreatDoor
open Go.RowKit
open Go.BigFrame
set_option maxRecDepth 100000
/-- A pointer to an instance. -/
structure InstP (w:World) (b o:Nat) (p:InstQ):Prop where
 box:Box4 w b o (.bool p.has) p.vb p.vr p.vd
 rd:instK.rd w p

theorem InstP.below {w w' : World} {b o:Nat} {p:InstQ} (h:InstP w b o p) (hb:Below w.heap.size w w'):InstP w' b o p:=⟨h.box.below hb,instK.rd_below h.rd hb⟩

theorem InstP.batch {w:World} {b o:Nat} {p:InstQ} (h:InstP w b o p):txnK.At w p.vb p.batch:=h.rd.1

theorem InstP.rounds {w:World} {b o:Nat} {p:InstQ} (h:InstP w b o p):roundK.At w p.vr p.rounds:=h.rd.2.1

theorem InstP.dec {w:World} {b o:Nat} {p:InstQ} (h:InstP w b o p):intK.At w p.vd p.dec:=h.rd.2.2

theorem rnd_at (rs:List RoundQ) (r:Nat) (hr:r < rs.length):(rs.map RoundQ.e).getD r rnd0=RoundQ.e rs[r]:=by simp [List.getD,hr]

theorem nmR_le (rs:List RoundQ) (r:Nat) (hr:r < rs.length):rs[r].rep.length + rs[r].pro.length≤nmL RoundQ.n rs:=nm_le RoundQ.n rs r hr

theorem rndsF_first (ds:List RoundE):∀ k,(∀ j,j < k→vf (ds.getD j rnd0).rep 1=0∧vf (ds.getD j rnd0).pro 2=0)→k < ds.length→(vf (ds.getD k rnd0).rep 1≠0→rndsF ds=vf (ds.getD k rnd0).rep 1)∧(vf (ds.getD k rnd0).rep 1=0→vf (ds.getD k rnd0).pro 2≠0→rndsF ds=vf (ds.getD k rnd0).pro 2):=by
 induction ds with
 | nil=>intro k _ h;simp at h
 | cons x r ih=>
  intro k h0 hk
  cases k with
  | zero=>
   simp only [List.getD_cons_zero]
   unfold rndsF
   exact ⟨fun h=>by rw [if_neg h],fun h h2=>by rw [if_pos h,if_neg h2]⟩
  | succ k=>
   have hx:=h0 0 (by omega)
   simp only [List.getD_cons_zero] at hx
   have:=ih k (fun j hj=>by simpa using h0 (j + 1) (by omega)) (by simpa using hk)
   simp only [List.getD_cons_succ]
   rw [show rndsF (x :: r)=rndsF r by rw [rndsF,if_pos hx.1,if_pos hx.2]]
   exact this

theorem rndsF_none (ds:List RoundE) (h:∀ j,j < ds.length→vf (ds.getD j rnd0).rep 1=0∧vf (ds.getD j rnd0).pro 2=0):rndsF ds=0:=by
 induction ds with
 | nil=>rfl
 | cons x r ih=>
  have hx:=h 0 (by simp)
  simp only [List.getD_cons_zero] at hx
  rw [rndsF,if_pos hx.1,if_pos hx.2]
  exact ih (fun j hj=>by simpa using h (j + 1) (by simpa using hj))

set_option maxHeartbeats 4000000 in
theorem l6Shape_any (b o:Nat) (p:InstQ) (w:World) (hP:InstP w b o p) (hl:p.n≤1048576) :
  Calls Tryz.prog 111 #[.pointer (some ⟨b,o,none⟩)] w fun e w' => e=.returned (.int .i64 (shpF p.e))∧Below w.heap.size w w' := by
 have hB:Below w.heap.size w w:=Below.refl _ _
 obtain ⟨has,vb,batch,vr,rounds,vd,dec⟩:=p
 dsimp only [InstQ.n] at hl
 have HE:Hid (shpF (InstQ.e ⟨has,vb,batch,vr,rounds,vd,dec⟩)=if has=false∧0 < (batch.map TxnQ.e).length then 1 else
  if has=true∧batF (batch.map TxnQ.e)≠0 then batF (batch.map TxnQ.e) else
  if (rounds.map RoundQ.e).length < 1∨4 < (rounds.map RoundQ.e).length then 2 else
  if rndsF (rounds.map RoundQ.e)=0 then vf dec 1 else rndsF (rounds.map RoundQ.e)):=by
  exact (rfl:shpF _=_)
 generalize shpF (InstQ.e ⟨has,vb,batch,vr,rounds,vd,dec⟩)=E at HE ⊢
 have hv:=l6Batch_any vb (batch.map TxnQ.e) w (txnsAt_of hP.batch) (by rw [List.length_map,sumA_of];omega)
 have hsb:∃ a c,vb=.slice a batch.length c:=hP.batch.shape
 have hsr:∃ a c,vr=.slice a rounds.length c:=hP.rounds.shape
 have hsd:∃ a c,vd=.slice a dec.length c:=hP.dec.shape
 obtain ⟨ba,bk,rfl⟩:=hsb
 obtain ⟨va,vk,rfl⟩:=hsr
 cases has with
 | false=>
  by_cases h0:0 < batch.length
  ·have E1:Hid (E=1):=by rw [HE.out,if_pos ⟨rfl,by simpa using h0⟩];rfl
   obtain ⟨c0,c1,c2,c3⟩:=hP.box
   dsimp only at c0 c1 c2 c3
   clear HE hv
   go_enter Tryz.func111,Tryz.ntmps111
   go_wp2
   go_ret
   exact ⟨by rw [E1.out];rfl,hB⟩
  ·have HS:Hid (E=if (rounds.map RoundQ.e).length < 1∨4 < (rounds.map RoundQ.e).length then 2 else if rndsF (rounds.map RoundQ.e)=0 then vf dec 1 else rndsF (rounds.map RoundQ.e)):=by
    have:=HE.out
    rw [if_neg (fun h=>h0 (by simpa using h.2)),if_neg (by simp)] at this
    exact this
   clear HE
   obtain ⟨c0,c1,c2,c3⟩:=hP.box
   dsimp only at c0 c1 c2 c3
   have h0' : ¬ (0:Int) < batch.length:=by omega
   go_enter Tryz.func111,Tryz.ntmps111
   clear c0 c1 c2 c3
   by_cases hr1:rounds.length < 1
   ·have E2:Hid (E=2):=by rw [HS.out,if_pos (Or.inl (by simpa using hr1))];rfl
    obtain ⟨c0,c1,c2,c3⟩:=hP.box
    dsimp only at c0 c1 c2 c3
    clear HS hv
    go_wp2
    go_ret
    exact ⟨by rw [E2.out];rfl,hB⟩
   ·by_cases hr4:4 < rounds.length
    ·have E2:Hid (E=2):=by rw [HS.out,if_pos (Or.inr (by simpa using hr4))];rfl
     obtain ⟨c0,c1,c2,c3⟩:=hP.box
     dsimp only at c0 c1 c2 c3
     clear HS hv
     go_wp2
     go_ret
     exact ⟨by rw [E2.out];rfl,hB⟩
    ·have HS2:Hid (E=if rndsF (rounds.map RoundQ.e)=0 then vf dec 1 else rndsF (rounds.map RoundQ.e)):=by
      have:=HS.out
      rw [if_neg (by simp only [List.length_map];omega)] at this
      exact this
     have hr1' : ¬ (rounds.length:Int) < 1:=by omega
     have hr4' : ¬ (4:Int) < rounds.length:=by omega
     clear HS hr1 hr4
     obtain ⟨c0,c1,c2,c3⟩:=hP.box
     dsimp only at c0 c1 c2 c3
     go_wp2
     clear c0 c1 c2 c3
     go_loopw [4] (fun j wr=>∃ k:Nat,k≤rounds.length∧j=.int .i64 k∧Hid (∀ j,j < k→vf ((rounds.map RoundQ.e).getD j rnd0).rep 1=0∧vf ((rounds.map RoundQ.e).getD j rnd0).pro 2=0)∧Below w.heap.size w wr) (fun j _=>rounds.length - (intOf j).toNat)
     case atStart=>exact ⟨0,Nat.zero_le _,rfl,fun j hj=>absurd hj (Nat.not_lt_zero _),Below.refl _ _⟩
     case round=>
      obtain ⟨k,hk,rfl,HA,hb⟩:=hrel
      have hPr:=hP.below hb
      have hBr:=hB.trans (hb.mono hB.size)
      obtain ⟨c0,c1,c2,c3⟩:=hPr.box
      dsimp only at c0 c1 c2 c3
      by_cases hlt:k < rounds.length
      ·obtain ⟨rb,ro,rfl,hbs,hc,hrd⟩:=hPr.rounds.cell (by decide) k hlt
       have hc' : ∀ j x,(roundK.cells rounds[k])[j]? = some x→wr.cell? ⟨rb,ro + k * 2 + j,none⟩=some x:=hc
       have r0:=hc' 0 (rounds[k].vr) rfl
       have r1:=hc' 1 (rounds[k].vp) rfl
       have hnm:=nmR_le rounds k hlt
       have hfst:=rndsF_first (rounds.map RoundQ.e) k HA.out (by simpa using hlt)
       rw [rnd_at rounds k hlt] at hfst
       dsimp only [RoundQ.e] at hfst
       have HF1:Hid (vf rounds[k].rep 1≠0→E=vf rounds[k].rep 1):=fun h=>by rw [HS2.out,hfst.1 h,if_neg h]
       have HF2:Hid (vf rounds[k].rep 1=0→vf rounds[k].pro 2≠0→E=vf rounds[k].pro 2):=fun h h2=>by rw [HS2.out,hfst.2 h h2,if_neg h2]
       have HN:Hid (vf rounds[k].rep 1=0→vf rounds[k].pro 2=0→∀ j,j < k + 1→vf ((rounds.map RoundQ.e).getD j rnd0).rep 1=0∧vf ((rounds.map RoundQ.e).getD j rnd0).pro 2=0):=by
        intro h1 h2 j hj
        by_cases hjk:j=k
        ·subst hjk
         rw [rnd_at rounds j hlt]
         exact ⟨h1,h2⟩
        ·exact HA.out j (by omega)
       clear HA hfst hc hc'
       generalize rounds[k]=q at *
       obtain ⟨qv,qr,qw,qp⟩:=q
       obtain ⟨rA,rP⟩:intK.At wr qv qr∧intK.At wr qw qp:=hrd
       dsimp only at *
       obtain ⟨ra,rk,rfl⟩:=rA.shape
       obtain ⟨pa,pk,rfl⟩:=rP.shape
       have hv1:=l5Votes_any ra rk qr 1 wr (intK_at rA).2 (by omega)
       rw [Nat.add_zero] at r0
       go_wp2_with fail
       refine hv1.mono ?_
       rintro e w2 ⟨rfl,hb2⟩
       have hPr2:=hPr.below hb2
       have hBr2:=hBr.trans (hb2.mono hBr.size)
       have hrb:=World.block_lt_of_cell? wr _ r1
       replace r1:=(hb2.cell (p:=⟨rb,ro + k * 2 + 1,none⟩) hrb).trans r1
       replace hb:=hb.trans (hb2.mono hb.size)
       have hv2:=l5Votes_any pa pk qp 2 w2 (intK_at (rP.below hb2)).2 (by omega)
       clear hv1 c0 c1 c2 c3 r0 hb2 hPr hBr rA rP
       obtain ⟨c0,c1,c2,c3⟩:=hPr2.box
       dsimp only at c0 c1 c2 c3
       by_cases h1:vf qr 1=0
       ·have HF:Hid (vf qp 2≠0→E=vf qp 2):=HF2.out h1
        have HM:Hid (vf qp 2=0→_):=HN.out h1
        rw [h1]
        clear HF1 HF2 HN h1
        go_wp2_with fail
        refine hv2.mono ?_
        rintro e w3 ⟨rfl,hb3⟩
        replace hb:=hb.trans (hb3.mono hb.size)
        replace hBr2:=hBr2.trans (hb3.mono hBr2.size)
        clear hv2 c0 c1 c2 c3 r1 hb3 hPr2
        by_cases h2:vf qp 2=0
        ·have R:=HM.out h2
         have HR:Hid _:=R
         rw [h2]
         clear HF HM R h2
         go_wp2
         go_roundw
         case rel=>exact ⟨k + 1,by omega,by go_num,HR.out,hb⟩
         case measure=>simp [intOf];omega
        ·have E2:Hid (E=vf qp 2):=HF.out h2
         have h2' : (vf qp 2 != 0)=true:=by simpa using h2
         clear HF HM h2
         generalize vf qp 2=r at *
         go_wp2
         go_ret
         exact ⟨by rw [E2.out];rfl,hBr2⟩
       ·have E2:Hid (E=vf qr 1):=HF1.out h1
        have h1' : (vf qr 1 != 0)=true:=by simpa using h1
        clear HF1 HF2 HN h1 hv2
        generalize vf qr 1=r at *
        go_wp2
        go_ret
        exact ⟨by rw [E2.out];rfl,hBr2⟩
      ·have hkl:k=rounds.length:=by omega
       subst hkl
       have E2:Hid (E=vf dec 1):=by
        have:=HS2.out
        rw [if_pos (rndsF_none _ (by simpa using HA.out))] at this
        exact this
       have hdec:intK.At wr vd dec:=hPr.dec
       obtain ⟨da,dk,rfl⟩:=hdec.shape
       have hv1:=l5Votes_any da dk dec 1 wr (intK_at hdec).2 (by omega)
       clear HA HS2 hdec
       go_wp2_with fail
       refine hv1.mono ?_
       rintro e w2 ⟨rfl,hb2⟩
       replace hBr:=hBr.trans (hb2.mono hBr.size)
       generalize vf dec 1=r at *
       clear hv1 c0 c1 c2 c3 hb2 hPr
       go_wp2
       go_ret
       exact ⟨by rw [E2.out];rfl,hBr⟩
 | true=>
  obtain ⟨c0,c1,c2,c3⟩:=hP.box
  dsimp only at c0 c1 c2 c3
  go_enter Tryz.func111,Tryz.ntmps111
  go_wp2_with fail
  refine hv.mono ?_
  rintro e w1 ⟨rfl,hb1⟩
  replace hP:=hP.below hb1
  replace hB:=hB.trans (hb1.mono hB.size)
  clear hv hb1 c0 c1 c2 c3
  by_cases h1:batF (batch.map TxnQ.e)=0
  ·have HS:Hid (E=if (rounds.map RoundQ.e).length < 1∨4 < (rounds.map RoundQ.e).length then 2 else if rndsF (rounds.map RoundQ.e)=0 then vf dec 1 else rndsF (rounds.map RoundQ.e)):=by
    have:=HE.out
    rw [if_neg (by simp),if_neg (fun h=>h.2 h1)] at this
    exact this
   rw [h1]
   clear HE h1
   have hv:=True.intro
   by_cases hr1:rounds.length < 1
   ·have E2:Hid (E=2):=by rw [HS.out,if_pos (Or.inl (by simpa using hr1))];rfl
    obtain ⟨c0,c1,c2,c3⟩:=hP.box
    dsimp only at c0 c1 c2 c3
    clear HS hv
    go_wp2
    go_ret
    exact ⟨by rw [E2.out];rfl,hB⟩
   ·by_cases hr4:4 < rounds.length
    ·have E2:Hid (E=2):=by rw [HS.out,if_pos (Or.inr (by simpa using hr4))];rfl
     obtain ⟨c0,c1,c2,c3⟩:=hP.box
     dsimp only at c0 c1 c2 c3
     clear HS hv
     go_wp2
     go_ret
     exact ⟨by rw [E2.out];rfl,hB⟩
    ·have HS2:Hid (E=if rndsF (rounds.map RoundQ.e)=0 then vf dec 1 else rndsF (rounds.map RoundQ.e)):=by
      have:=HS.out
      rw [if_neg (by simp only [List.length_map];omega)] at this
      exact this
     have hr1' : ¬ (rounds.length:Int) < 1:=by omega
     have hr4' : ¬ (4:Int) < rounds.length:=by omega
     clear HS hr1 hr4
     obtain ⟨c0,c1,c2,c3⟩:=hP.box
     dsimp only at c0 c1 c2 c3
     go_wp2
     clear c0 c1 c2 c3
     go_loopw [4] (fun j wr=>∃ k:Nat,k≤rounds.length∧j=.int .i64 k∧Hid (∀ j,j < k→vf ((rounds.map RoundQ.e).getD j rnd0).rep 1=0∧vf ((rounds.map RoundQ.e).getD j rnd0).pro 2=0)∧Below w1.heap.size w1 wr) (fun j _=>rounds.length - (intOf j).toNat)
     case atStart=>exact ⟨0,Nat.zero_le _,rfl,fun j hj=>absurd hj (Nat.not_lt_zero _),Below.refl _ _⟩
     case round=>
      obtain ⟨k,hk,rfl,HA,hb⟩:=hrel
      have hPr:=hP.below hb
      have hBr:=hB.trans (hb.mono hB.size)
      obtain ⟨c0,c1,c2,c3⟩:=hPr.box
      dsimp only at c0 c1 c2 c3
      by_cases hlt:k < rounds.length
      ·obtain ⟨rb,ro,rfl,hbs,hc,hrd⟩:=hPr.rounds.cell (by decide) k hlt
       have hc' : ∀ j x,(roundK.cells rounds[k])[j]? = some x→wr.cell? ⟨rb,ro + k * 2 + j,none⟩=some x:=hc
       have r0:=hc' 0 (rounds[k].vr) rfl
       have r1:=hc' 1 (rounds[k].vp) rfl
       have hnm:=nmR_le rounds k hlt
       have hfst:=rndsF_first (rounds.map RoundQ.e) k HA.out (by simpa using hlt)
       rw [rnd_at rounds k hlt] at hfst
       dsimp only [RoundQ.e] at hfst
       have HF1:Hid (vf rounds[k].rep 1≠0→E=vf rounds[k].rep 1):=fun h=>by rw [HS2.out,hfst.1 h,if_neg h]
       have HF2:Hid (vf rounds[k].rep 1=0→vf rounds[k].pro 2≠0→E=vf rounds[k].pro 2):=fun h h2=>by rw [HS2.out,hfst.2 h h2,if_neg h2]
       have HN:Hid (vf rounds[k].rep 1=0→vf rounds[k].pro 2=0→∀ j,j < k + 1→vf ((rounds.map RoundQ.e).getD j rnd0).rep 1=0∧vf ((rounds.map RoundQ.e).getD j rnd0).pro 2=0):=by
        intro h1 h2 j hj
        by_cases hjk:j=k
        ·subst hjk
         rw [rnd_at rounds j hlt]
         exact ⟨h1,h2⟩
        ·exact HA.out j (by omega)
       clear HA hfst hc hc'
       generalize rounds[k]=q at *
       obtain ⟨qv,qr,qw,qp⟩:=q
       obtain ⟨rA,rP⟩:intK.At wr qv qr∧intK.At wr qw qp:=hrd
       dsimp only at *
       obtain ⟨ra,rk,rfl⟩:=rA.shape
       obtain ⟨pa,pk,rfl⟩:=rP.shape
       have hv1:=l5Votes_any ra rk qr 1 wr (intK_at rA).2 (by omega)
       rw [Nat.add_zero] at r0
       go_wp2_with fail
       refine hv1.mono ?_
       rintro e w2 ⟨rfl,hb2⟩
       have hPr2:=hPr.below hb2
       have hBr2:=hBr.trans (hb2.mono hBr.size)
       have hrb:=World.block_lt_of_cell? wr _ r1
       replace r1:=(hb2.cell (p:=⟨rb,ro + k * 2 + 1,none⟩) hrb).trans r1
       replace hb:=hb.trans (hb2.mono hb.size)
       have hv2:=l5Votes_any pa pk qp 2 w2 (intK_at (rP.below hb2)).2 (by omega)
       clear hv1 c0 c1 c2 c3 r0 hb2 hPr hBr rA rP
       obtain ⟨c0,c1,c2,c3⟩:=hPr2.box
       dsimp only at c0 c1 c2 c3
       by_cases h1:vf qr 1=0
       ·have HF:Hid (vf qp 2≠0→E=vf qp 2):=HF2.out h1
        have HM:Hid (vf qp 2=0→_):=HN.out h1
        rw [h1]
        clear HF1 HF2 HN h1
        go_wp2_with fail
        refine hv2.mono ?_
        rintro e w3 ⟨rfl,hb3⟩
        replace hb:=hb.trans (hb3.mono hb.size)
        replace hBr2:=hBr2.trans (hb3.mono hBr2.size)
        clear hv2 c0 c1 c2 c3 r1 hb3 hPr2
        by_cases h2:vf qp 2=0
        ·have R:=HM.out h2
         have HR:Hid _:=R
         rw [h2]
         clear HF HM R h2
         go_wp2
         go_roundw
         case rel=>exact ⟨k + 1,by omega,by go_num,HR.out,hb⟩
         case measure=>simp [intOf];omega
        ·have E2:Hid (E=vf qp 2):=HF.out h2
         have h2' : (vf qp 2 != 0)=true:=by simpa using h2
         clear HF HM h2
         generalize vf qp 2=r at *
         go_wp2
         go_ret
         exact ⟨by rw [E2.out];rfl,hBr2⟩
       ·have E2:Hid (E=vf qr 1):=HF1.out h1
        have h1' : (vf qr 1 != 0)=true:=by simpa using h1
        clear HF1 HF2 HN h1 hv2
        generalize vf qr 1=r at *
        go_wp2
        go_ret
        exact ⟨by rw [E2.out];rfl,hBr2⟩
      ·have hkl:k=rounds.length:=by omega
       subst hkl
       have E2:Hid (E=vf dec 1):=by
        have:=HS2.out
        rw [if_pos (rndsF_none _ (by simpa using HA.out))] at this
        exact this
       have hdec:intK.At wr vd dec:=hPr.dec
       obtain ⟨da,dk,rfl⟩:=hdec.shape
       have hv1:=l5Votes_any da dk dec 1 wr (intK_at hdec).2 (by omega)
       clear HA HS2 hdec
       go_wp2_with fail
       refine hv1.mono ?_
       rintro e w2 ⟨rfl,hb2⟩
       replace hBr:=hBr.trans (hb2.mono hBr.size)
       generalize vf dec 1=r at *
       clear hv1 c0 c1 c2 c3 hb2 hPr
       go_wp2
       go_ret
       exact ⟨by rw [E2.out];rfl,hBr⟩
  ·have E1:Hid (E=batF (batch.map TxnQ.e)):=by
    have:=HE.out
    rw [if_neg (by simp),if_pos ⟨by simp,h1⟩] at this
    exact this
   have h1' : (batF (batch.map TxnQ.e) != 0)=true:=by simpa using h1
   clear HE h1
   generalize batF (batch.map TxnQ.e)=r at *
   go_wp2
   go_ret
   exact ⟨by rw [E1.out];rfl,hB⟩

end Go.Proofs.YtjjoahhnkpjolaaGreatDoor
namespace Go.Proofs.YtjjoahhnkpjolaaGreatDoor
open Go.RowKit
open Go.BigFrame
set_option maxRecDepth 100000
set_option maxHeartbeats 4000000 in
theorem formFault_any (p:InstQ) (w:World) (h:instK.rd w p) (hl:p.n≤1048576) :
  Calls Tryz.prog 126 #[.agg #[.bool p.has,p.vb,p.vr,p.vd]] w fun e w' => e=.returned (.int .i64 (shpF p.e))∧Below w.heap.size w w' := by
 obtain ⟨has,vb,batch,vr,rounds,vd,dec⟩:=p
 dsimp only [InstQ.n] at hl
 have HE:Hid (shpF (InstQ.e ⟨has,vb,batch,vr,rounds,vd,dec⟩)=if has=false∧0 < (batch.map TxnQ.e).length then 1 else
  if has=true∧batF (batch.map TxnQ.e)≠0 then batF (batch.map TxnQ.e) else
  if (rounds.map RoundQ.e).length < 1∨4 < (rounds.map RoundQ.e).length then 2 else
  if rndsF (rounds.map RoundQ.e)=0 then vf dec 1 else rndsF (rounds.map RoundQ.e)):=by
  exact (rfl:shpF _=_)
 generalize shpF (InstQ.e ⟨has,vb,batch,vr,rounds,vd,dec⟩)=E at HE ⊢
 obtain ⟨hT,hR,hD⟩:txnK.At w vb batch∧roundK.At w vr rounds∧intK.At w vd dec:=h
 obtain ⟨ba,bk,rfl⟩:=hT.shape
 obtain ⟨va,vk,rfl⟩:=hR.shape
 obtain ⟨da,dk,rfl⟩:=hD.shape
 have hv:=fun w h=>batchFault_any (.slice ba batch.length bk) (batch.map TxnQ.e) w h (by rw [List.length_map,sumA_of];omega)
 have hB:Below w.heap.size w (w.alloc (.cells #[.bool has,.slice ba batch.length bk,.slice va rounds.length vk,.slice da dec.length dk] 89)):=by go_grown
 have Bx:=Blk.new w 89 #[.bool has,.slice ba batch.length bk,.slice va rounds.length vk,.slice da dec.length dk]
 replace hT:=hT.below hB
 replace hR:=hR.below hB
 replace hD:=hD.below hB
 cases has with
 | false=>
  by_cases h0:0 < batch.length
  ·have E1:Hid (E=1):=by rw [HE.out,if_pos ⟨rfl,by simpa using h0⟩];rfl
   clear HE hv
   go_enter Tryz.func126,Tryz.ntmps126
   go_wp2
   go_ret
   exact ⟨by rw [E1.out];rfl,hB⟩
  ·have HS:Hid (E=if (rounds.map RoundQ.e).length < 1∨4 < (rounds.map RoundQ.e).length then 2 else if rndsF (rounds.map RoundQ.e)=0 then vf dec 1 else rndsF (rounds.map RoundQ.e)):=by
    have:=HE.out
    rw [if_neg (fun h=>h0 (by simpa using h.2)),if_neg (by simp)] at this
    exact this
   clear HE hv
   have h0' : ¬ (0:Int) < batch.length:=by omega
   go_enter Tryz.func126,Tryz.ntmps126
   by_cases hr1:rounds.length < 1
   ·have E2:Hid (E=2):=by rw [HS.out,if_pos (Or.inl (by simpa using hr1))];rfl
    clear HS
    go_wp2
    go_ret
    exact ⟨by rw [E2.out];rfl,hB⟩
   ·by_cases hr4:4 < rounds.length
    ·have E2:Hid (E=2):=by rw [HS.out,if_pos (Or.inr (by simpa using hr4))];rfl
     clear HS
     go_wp2
     go_ret
     exact ⟨by rw [E2.out];rfl,hB⟩
    ·have HS2:Hid (E=if rndsF (rounds.map RoundQ.e)=0 then vf dec 1 else rndsF (rounds.map RoundQ.e)):=by
      have:=HS.out
      rw [if_neg (by simp only [List.length_map];omega)] at this
      exact this
     have hr1' : ¬ (rounds.length:Int) < 1:=by omega
     have hr4' : ¬ (4:Int) < rounds.length:=by omega
     clear HS hr1 hr4
     go_wp2
     generalize (w.alloc (.cells #[.bool false,.slice ba batch.length bk,.slice va rounds.length vk,.slice da dec.length dk] 89))=W at *
     go_loopw [38] (fun j wr=>∃ k:Nat,k≤rounds.length∧j=.int .i64 k∧Hid (∀ j,j < k→vf ((rounds.map RoundQ.e).getD j rnd0).rep 1=0∧vf ((rounds.map RoundQ.e).getD j rnd0).pro 2=0)∧Below W.heap.size W wr) (fun j _=>rounds.length - (intOf j).toNat)
     case atStart=>exact ⟨0,Nat.zero_le _,rfl,fun j hj=>absurd hj (Nat.not_lt_zero _),Below.refl _ _⟩
     case round=>
      obtain ⟨k,hk,rfl,HA,hb⟩:=hrel
      have hBr:=hB.trans (hb.mono hB.size)
      by_cases hlt:k < rounds.length
      ·obtain ⟨rb,ro,rfl,hbs,hc,hrd⟩:=(hR.below hb).cell (by decide) k hlt
       have hc' : ∀ j x,(roundK.cells rounds[k])[j]? = some x→wr.cell? ⟨rb,ro + k * 2 + j,none⟩=some x:=hc
       have r0:=hc' 0 (rounds[k].vr) rfl
       have r1:=hc' 1 (rounds[k].vp) rfl
       have hnm:=nmR_le rounds k hlt
       have hfst:=rndsF_first (rounds.map RoundQ.e) k HA.out (by simpa using hlt)
       rw [rnd_at rounds k hlt] at hfst
       dsimp only [RoundQ.e] at hfst
       have HF1:Hid (vf rounds[k].rep 1≠0→E=vf rounds[k].rep 1):=fun h=>by rw [HS2.out,hfst.1 h,if_neg h]
       have HF2:Hid (vf rounds[k].rep 1=0→vf rounds[k].pro 2≠0→E=vf rounds[k].pro 2):=fun h h2=>by rw [HS2.out,hfst.2 h h2,if_neg h2]
       have HN:Hid (vf rounds[k].rep 1=0→vf rounds[k].pro 2=0→∀ j,j < k + 1→vf ((rounds.map RoundQ.e).getD j rnd0).rep 1=0∧vf ((rounds.map RoundQ.e).getD j rnd0).pro 2=0):=by
        intro h1 h2 j hj
        by_cases hjk:j=k
        ·subst hjk
         rw [rnd_at rounds j hlt]
         exact ⟨h1,h2⟩
        ·exact HA.out j (by omega)
       clear HA hfst hc hc'
       generalize rounds[k]=q at *
       obtain ⟨qv,qr,qw,qp⟩:=q
       obtain ⟨rA,rP⟩:intK.At wr qv qr∧intK.At wr qw qp:=hrd
       dsimp only at *
       obtain ⟨ra,rk,rfl⟩:=rA.shape
       obtain ⟨pa,pk,rfl⟩:=rP.shape
       have hbn:Below wr.heap.size wr (wr.alloc (.cells #[.slice ra qr.length rk,.slice pa qp.length pk] 171)):=by go_grown
       have hBn:=hb.alloc hb.size (.cells #[.slice ra qr.length rk,.slice pa qp.length pk] 171)
       have hBr:=hBr.alloc hBr.size (.cells #[.slice ra qr.length rk,.slice pa qp.length pk] 171)
       have Bx:=Blk.new wr 171 #[.slice ra qr.length rk,.slice pa qp.length pk]
       have hv1:=votesFault_any ra rk qr 1 _ (intK_at (rA.below hbn)).2 (by omega)
       have hv2:=votesFault_any pa pk qp 2 _ (intK_at (rP.below hbn)).2 (by omega)
       rw [vfa1] at hv1
       rw [vfa2] at hv2
       rw [Nat.add_zero] at r0
       clear rA rP hbn
       go_wp2_with fail
       generalize wr.alloc (.cells #[.slice ra qr.length rk,.slice pa qp.length pk] 171)=X at *
       refine hv1.mono ?_
       rintro e w2 ⟨rfl,hw⟩
       replace hw:=hw.symm
       subst hw
       clear hv1 r0 r1
       by_cases h1:vf qr 1=0
       ·have HF:Hid (vf qp 2≠0→E=vf qp 2):=HF2.out h1
        have HM:Hid (vf qp 2=0→_):=HN.out h1
        rw [h1]
        clear HF1 HF2 HN h1
        have p1:=Bx.cell 1 _ rfl
        go_wp2_with fail
        refine hv2.mono ?_
        rintro e w2 ⟨rfl,hw⟩
        replace hw:=hw.symm
        subst hw
        clear hv2 p1 Bx
        by_cases h2:vf qp 2=0
        ·have R:=HM.out h2
         have HR:Hid _:=R
         rw [h2]
         clear HF HM R h2
         go_wp2
         go_roundw
         case rel=>exact ⟨k + 1,by omega,by go_num,HR.out,hBn⟩
         case measure=>simp [intOf];omega
        ·have E2:Hid (E=vf qp 2):=HF.out h2
         have h2' : (vf qp 2 != 0)=true:=by simpa using h2
         clear HF HM h2
         generalize vf qp 2=r at *
         go_wp2
         go_ret
         exact ⟨by rw [E2.out];rfl,hBr⟩
       ·have E2:Hid (E=vf qr 1):=HF1.out h1
        have h1' : (vf qr 1 != 0)=true:=by simpa using h1
        clear HF1 HF2 HN h1 hv2
        generalize vf qr 1=r at *
        go_wp2
        go_ret
        exact ⟨by rw [E2.out];rfl,hBr⟩
      ·have hkl:k=rounds.length:=by omega
       subst hkl
       have E2:Hid (E=vf dec 1):=by
        have:=HS2.out
        rw [if_pos (rndsF_none _ (by simpa using HA.out))] at this
        exact this
       have Br:=Bx.below hb
       have c3:=Br.cell 3 _ rfl
       have hv1:=votesFault_any da dk dec 1 wr (intK_at (hD.below hb)).2 (by omega)
       rw [vfa1] at hv1
       clear HA HS2
       go_wp2_with fail
       refine hv1.mono ?_
       rintro e w2 ⟨rfl,hw⟩
       replace hw:=hw.symm
       subst hw
       generalize vf dec 1=r at *
       clear hv1 c3
       go_wp2
       go_ret
       exact ⟨by rw [E2.out];rfl,hBr⟩
 | true=>
  go_enter Tryz.func126,Tryz.ntmps126
  go_wp2_with fail
  generalize w.alloc (.cells #[.bool true,.slice ba batch.length bk,.slice va rounds.length vk,.slice da dec.length dk] 89)=W at *
  refine (hv W (txnsAt_of hT)).mono ?_
  rintro e w1 ⟨rfl,hb1⟩
  replace hR:=hR.below hb1
  replace hD:=hD.below hb1
  replace Bx:=Bx.below hb1
  replace hB:=hB.trans (hb1.mono hB.size)
  clear hv hb1 hT
  by_cases h1:batF (batch.map TxnQ.e)=0
  ·have HS:Hid (E=if (rounds.map RoundQ.e).length < 1∨4 < (rounds.map RoundQ.e).length then 2 else if rndsF (rounds.map RoundQ.e)=0 then vf dec 1 else rndsF (rounds.map RoundQ.e)):=by
    have:=HE.out
    rw [if_neg (by simp),if_neg (fun h=>h.2 h1)] at this
    exact this
   rw [h1]
   clear HE h1
   by_cases hr1:rounds.length < 1
   ·have E2:Hid (E=2):=by rw [HS.out,if_pos (Or.inl (by simpa using hr1))];rfl
    clear HS
    obtain ⟨c0,c1,c2⟩:=Bx.cel3
    go_wp2
    go_ret
    exact ⟨by rw [E2.out];rfl,hB⟩
   ·by_cases hr4:4 < rounds.length
    ·have E2:Hid (E=2):=by rw [HS.out,if_pos (Or.inr (by simpa using hr4))];rfl
     clear HS
     obtain ⟨c0,c1,c2⟩:=Bx.cel3
     go_wp2
     go_ret
     exact ⟨by rw [E2.out];rfl,hB⟩
    ·have HS2:Hid (E=if rndsF (rounds.map RoundQ.e)=0 then vf dec 1 else rndsF (rounds.map RoundQ.e)):=by
      have:=HS.out
      rw [if_neg (by simp only [List.length_map];omega)] at this
      exact this
     have hr1' : ¬ (rounds.length:Int) < 1:=by omega
     have hr4' : ¬ (4:Int) < rounds.length:=by omega
     clear HS hr1 hr4
     obtain ⟨c0,c1,c2⟩:=Bx.cel3
     go_wp2
     clear c0 c1 c2
     go_loopw [38] (fun j wr=>∃ k:Nat,k≤rounds.length∧j=.int .i64 k∧Hid (∀ j,j < k→vf ((rounds.map RoundQ.e).getD j rnd0).rep 1=0∧vf ((rounds.map RoundQ.e).getD j rnd0).pro 2=0)∧Below w1.heap.size w1 wr) (fun j _=>rounds.length - (intOf j).toNat)
     case atStart=>exact ⟨0,Nat.zero_le _,rfl,fun j hj=>absurd hj (Nat.not_lt_zero _),Below.refl _ _⟩
     case round=>
      obtain ⟨k,hk,rfl,HA,hb⟩:=hrel
      have hBr:=hB.trans (hb.mono hB.size)
      by_cases hlt:k < rounds.length
      ·obtain ⟨rb,ro,rfl,hbs,hc,hrd⟩:=(hR.below hb).cell (by decide) k hlt
       have hc' : ∀ j x,(roundK.cells rounds[k])[j]? = some x→wr.cell? ⟨rb,ro + k * 2 + j,none⟩=some x:=hc
       have r0:=hc' 0 (rounds[k].vr) rfl
       have r1:=hc' 1 (rounds[k].vp) rfl
       have hnm:=nmR_le rounds k hlt
       have hfst:=rndsF_first (rounds.map RoundQ.e) k HA.out (by simpa using hlt)
       rw [rnd_at rounds k hlt] at hfst
       dsimp only [RoundQ.e] at hfst
       have HF1:Hid (vf rounds[k].rep 1≠0→E=vf rounds[k].rep 1):=fun h=>by rw [HS2.out,hfst.1 h,if_neg h]
       have HF2:Hid (vf rounds[k].rep 1=0→vf rounds[k].pro 2≠0→E=vf rounds[k].pro 2):=fun h h2=>by rw [HS2.out,hfst.2 h h2,if_neg h2]
       have HN:Hid (vf rounds[k].rep 1=0→vf rounds[k].pro 2=0→∀ j,j < k + 1→vf ((rounds.map RoundQ.e).getD j rnd0).rep 1=0∧vf ((rounds.map RoundQ.e).getD j rnd0).pro 2=0):=by
        intro h1 h2 j hj
        by_cases hjk:j=k
        ·subst hjk
         rw [rnd_at rounds j hlt]
         exact ⟨h1,h2⟩
        ·exact HA.out j (by omega)
       clear HA hfst hc hc'
       generalize rounds[k]=q at *
       obtain ⟨qv,qr,qw,qp⟩:=q
       obtain ⟨rA,rP⟩:intK.At wr qv qr∧intK.At wr qw qp:=hrd
       dsimp only at *
       obtain ⟨ra,rk,rfl⟩:=rA.shape
       obtain ⟨pa,pk,rfl⟩:=rP.shape
       have hbn:Below wr.heap.size wr (wr.alloc (.cells #[.slice ra qr.length rk,.slice pa qp.length pk] 171)):=by go_grown
       have hBn:=hb.alloc hb.size (.cells #[.slice ra qr.length rk,.slice pa qp.length pk] 171)
       have hBr:=hBr.alloc hBr.size (.cells #[.slice ra qr.length rk,.slice pa qp.length pk] 171)
       have Bx:=Blk.new wr 171 #[.slice ra qr.length rk,.slice pa qp.length pk]
       have hv1:=votesFault_any ra rk qr 1 _ (intK_at (rA.below hbn)).2 (by omega)
       have hv2:=votesFault_any pa pk qp 2 _ (intK_at (rP.below hbn)).2 (by omega)
       rw [vfa1] at hv1
       rw [vfa2] at hv2
       rw [Nat.add_zero] at r0
       clear rA rP hbn
       go_wp2_with fail
       generalize wr.alloc (.cells #[.slice ra qr.length rk,.slice pa qp.length pk] 171)=X at *
       refine hv1.mono ?_
       rintro e w2 ⟨rfl,hw⟩
       replace hw:=hw.symm
       subst hw
       clear hv1 r0 r1
       by_cases h1:vf qr 1=0
       ·have HF:Hid (vf qp 2≠0→E=vf qp 2):=HF2.out h1
        have HM:Hid (vf qp 2=0→_):=HN.out h1
        rw [h1]
        clear HF1 HF2 HN h1
        have p1:=Bx.cell 1 _ rfl
        go_wp2_with fail
        refine hv2.mono ?_
        rintro e w2 ⟨rfl,hw⟩
        replace hw:=hw.symm
        subst hw
        clear hv2 p1 Bx
        by_cases h2:vf qp 2=0
        ·have R:=HM.out h2
         have HR:Hid _:=R
         rw [h2]
         clear HF HM R h2
         go_wp2
         go_roundw
         case rel=>exact ⟨k + 1,by omega,by go_num,HR.out,hBn⟩
         case measure=>simp [intOf];omega
        ·have E2:Hid (E=vf qp 2):=HF.out h2
         have h2' : (vf qp 2 != 0)=true:=by simpa using h2
         clear HF HM h2
         generalize vf qp 2=r at *
         go_wp2
         go_ret
         exact ⟨by rw [E2.out];rfl,hBr⟩
       ·have E2:Hid (E=vf qr 1):=HF1.out h1
        have h1' : (vf qr 1 != 0)=true:=by simpa using h1
        clear HF1 HF2 HN h1 hv2
        generalize vf qr 1=r at *
        go_wp2
        go_ret
        exact ⟨by rw [E2.out];rfl,hBr⟩
      ·have hkl:k=rounds.length:=by omega
       subst hkl
       have E2:Hid (E=vf dec 1):=by
        have:=HS2.out
        rw [if_pos (rndsF_none _ (by simpa using HA.out))] at this
        exact this
       have Br:=Bx.below hb
       have c3:=Br.cell 3 _ rfl
       have hv1:=votesFault_any da dk dec 1 wr (intK_at (hD.below hb)).2 (by omega)
       rw [vfa1] at hv1
       clear HA HS2
       go_wp2_with fail
       refine hv1.mono ?_
       rintro e w2 ⟨rfl,hw⟩
       replace hw:=hw.symm
       subst hw
       generalize vf dec 1=r at *
       clear hv1 c3
       go_wp2
       go_ret
       exact ⟨by rw [E2.out];rfl,hBr⟩
  ·have E1:Hid (E=batF (batch.map TxnQ.e)):=by
    have:=HE.out
    rw [if_neg (by simp),if_pos ⟨by simp,h1⟩] at this
    exact this
   have h1' : (batF (batch.map TxnQ.e) != 0)=true:=by simpa using h1
   clear HE h1
   generalize batF (batch.map TxnQ.e)=r at *
   go_wp2
   go_ret
   exact ⟨by rw [E1.out];rfl,hB⟩

end Go.Proofs.YtjjoahhnkpjolaaGreatDoor

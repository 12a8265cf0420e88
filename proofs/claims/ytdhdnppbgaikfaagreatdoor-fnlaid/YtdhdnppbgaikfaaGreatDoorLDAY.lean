/- Texts joined, with what the laws reach alone. -/
import Derived.Test.YtdhdnppbgaikfaaGreatDoorLDAX
set_option linter.unusedVariables false
set_option linter.unusedSimpArgs false
namespace Go.Proofs.YtdhdnppbgaikfaaGreatDoor
open Go.RowKit Go.Shelf
set_option maxRecDepth 100000
attribute [local go_sem] Oper.semAt_some
/-- Who voted in a row, from node i on. -/
def sdF:Nat→List Int→List (Nat × Int)
 | _,[]=>[]
 | i,v :: r=>(if v=3 then [] else [(i,v)]) ++ sdF (i + 1) r

theorem rvF_sdF (kind round:Int) (vs:List Int):∀ i,rvF kind round i vs=(sdF i vs).map (fun p=>⟨kind,round,(p.1:Int),p.2⟩):=by
 induction vs with
 | nil=>intro i;rfl
 | cons v r ih=>
  intro i
  simp only [rvF,sdF,List.map_append,ih]
  congr 1
  split <;> rfl

theorem sd_pre0 {x0 x1 x2:Int} (h:x0≠3):([]:List (Nat × Int)) ++ [(0,x0)] <+: sdF 0 [x0,x1,x2]:=⟨sdF 1 [x1,x2],by simp [sdF,h]⟩

theorem sd_pre1 {x0 x1 x2:Int} (h:x1≠3):sdF 0 [x0] ++ [(1,x1)] <+: sdF 0 [x0,x1,x2]:=⟨sdF 2 [x2],by simp [sdF,h]⟩

theorem sd_pre2 {x0 x1 x2:Int} (h:x2≠3):sdF 0 [x0,x1] ++ [(2,x2)] <+: sdF 0 [x0,x1,x2]:=⟨[],by simp [sdF,h]⟩

theorem said_any (x0 x1 x2:Int) (w:World) :
  Calls Tryz.prog 44 #[.agg #[.int .i64 x0,.int .i64 x1,.int .i64 x2]] w fun e w' => e=.returned (.func (.func 77) #[] #[.pointer (some ⟨w.heap.size,0,none⟩)])∧w' = w.alloc (.cells #[.int .i64 x0,.int .i64 x1,.int .i64 x2] 51):=by
 have hmf:∀ (fn:Fn) (first cap:Array Value) (w:World),(Instr.makeFunc fn first cap).run Tryz.prog w=.ok (.func fn first cap) w:=fun _ _ _ _=>rfl
 go_enter Tryz.func44,Tryz.ntmps44
 go_wp2
 go_ret
 exact ⟨rfl,rfl⟩

def encP (p:Nat × Int):Array Value:=#[.int .i64 (p.1:Int),.int .i64 p.2]

set_option maxRecDepth 100000 in
set_option maxHeartbeats 4000000 in
theorem said1_hands (Bs:Nat) (x0 x1 x2:Int) (w:World) (hB:Blk w Bs 51 #[.int .i64 x0,.int .i64 x1,.int .i64 x2]) :
  Hands Tryz.prog 77 #[.pointer (some ⟨Bs,0,none⟩)] encP (fun _ _ _=>True) (sdF 0 [x0,x1,x2]) w:=by
 intro n l J W hW hl0 hl hJ hY h0
 have hB' := hB.below hW
 have c0:=hB'.cell 0 _ rfl
 have c1:=hB'.cell 1 _ rfl
 have c2:=hB'.cell 2 _ rfl
 clear hB' hB hJ
 have i0:∀ u:World,(Instr.index 51 (.agg #[.int .i64 x0,.int .i64 x1,.int .i64 x2]) (.int .i64 0)).run Tryz.prog u=.ok (.int .i64 x0) u:=fun u=>by kernel_rfl
 have i1:∀ u:World,(Instr.index 51 (.agg #[.int .i64 x0,.int .i64 x1,.int .i64 x2]) (.int .i64 1)).run Tryz.prog u=.ok (.int .i64 x1) u:=fun u=>by kernel_rfl
 have i2:∀ u:World,(Instr.index 51 (.agg #[.int .i64 x0,.int .i64 x1,.int .i64 x2]) (.int .i64 2)).run Tryz.prog u=.ok (.int .i64 x2) u:=fun u=>by kernel_rfl
 refine callsIn_of_wp Tryz.func77 rfl trivial ?_ rfl
 simp only [Tryz.ntmps77,List.size_toArray,List.length_cons,List.length_nil,Nat.reduceAdd,Nat.reduceSub,Array.replicate_succ,Array.replicate_zero,List.push_toArray,List.append_toArray,List.nil_append,List.cons_append]
 gi_wp2
 clear c0 c1 c2
 gi_loopw [6] (fun i wr=>∃ k:Nat,k≤3∧i=.int .i64 k∧J (sdF 0 ([x0,x1,x2].take k)) wr) (fun i _=>3 - (intOf i).toNat)
 case atStart=>exact ⟨0,by omega,rfl,h0⟩
 case round=>
  obtain ⟨k,hk,rfl,hJs⟩:=hrel
  have hk4:k=0∨k=1∨k=2∨k=3:=by omega
  rcases hk4 with rfl | rfl | rfl | rfl
  ·by_cases h3:x0=3
   ·have e3:(x0 != 3)=false:=by rw [h3];rfl
    have HJ:Hid (J (sdF 0 ([x0,x1,x2].take 1)) wr):=by
     have:J (sdF 0 ([x0,x1,x2].take 0)) wr:=hJs
     show J _ wr
     simpa [sdF,h3] using this
    clear hJs h3
    gi_wp2
    refine ⟨fun _ h=>(by cases h),?_⟩
    gi_wp2
    go_roundw
    case rel=>exact ⟨1,by omega,by first | rfl | go_num,HJ.out⟩
    case measure=>simp [intOf] <;> omega
   ·have e3:(x0 != 3)=true:=by simpa using h3
    obtain ⟨fn,tmps,assign,body,hy,hR⟩:=yield_wide (m' := n - 1) (hY _ (0,x0) wr hJs (sd_pre0 h3))
    have HE:Hid (sdF 0 ([x0,x1,x2].take 0) ++ [(0,x0)]=sdF 0 ([x0,x1,x2].take 1)):=by show _=_;simp [sdF,h3]
    replace hy:(Instr.yield l #[.int .i64 0,.int .i64 x0]).run Tryz.prog wr=.ok (.round l fn tmps assign body) wr:=hy
    clear hJs h3
    gi_wp2
    refine ⟨fun h=>(by cases h),hR.mono ?_⟩
    rintro e W3 ⟨rfl,hJ3,_⟩
    rw [HE.out] at hJ3
    gi_wp2
    go_roundw
    case rel=>exact ⟨1,by omega,by first | rfl | go_num,hJ3⟩
    case measure=>simp [intOf] <;> omega
  ·by_cases h3:x1=3
   ·have e3:(x1 != 3)=false:=by rw [h3];rfl
    have HJ:Hid (J (sdF 0 ([x0,x1,x2].take 2)) wr):=by
     have:J (sdF 0 ([x0,x1,x2].take 1)) wr:=hJs
     show J _ wr
     simpa [sdF,h3] using this
    clear hJs h3
    gi_wp2
    refine ⟨fun _ h=>(by cases h),?_⟩
    gi_wp2
    go_roundw
    case rel=>exact ⟨2,by omega,by first | rfl | go_num,HJ.out⟩
    case measure=>simp [intOf] <;> omega
   ·have e3:(x1 != 3)=true:=by simpa using h3
    obtain ⟨fn,tmps,assign,body,hy,hR⟩:=yield_wide (m' := n - 1) (hY _ (1,x1) wr hJs (sd_pre1 h3))
    have HE:Hid (sdF 0 ([x0,x1,x2].take 1) ++ [(1,x1)]=sdF 0 ([x0,x1,x2].take 2)):=by show _=_;simp [sdF,h3]
    replace hy:(Instr.yield l #[.int .i64 1,.int .i64 x1]).run Tryz.prog wr=.ok (.round l fn tmps assign body) wr:=hy
    clear hJs h3
    gi_wp2
    refine ⟨fun h=>(by cases h),hR.mono ?_⟩
    rintro e W3 ⟨rfl,hJ3,_⟩
    rw [HE.out] at hJ3
    gi_wp2
    go_roundw
    case rel=>exact ⟨2,by omega,by first | rfl | go_num,hJ3⟩
    case measure=>simp [intOf] <;> omega
  ·by_cases h3:x2=3
   ·have e3:(x2 != 3)=false:=by rw [h3];rfl
    have HJ:Hid (J (sdF 0 ([x0,x1,x2].take 3)) wr):=by
     have:J (sdF 0 ([x0,x1,x2].take 2)) wr:=hJs
     show J _ wr
     simpa [sdF,h3] using this
    clear hJs h3
    gi_wp2
    refine ⟨fun _ h=>(by cases h),?_⟩
    gi_wp2
    go_roundw
    case rel=>exact ⟨3,by omega,by first | rfl | go_num,HJ.out⟩
    case measure=>simp [intOf] <;> omega
   ·have e3:(x2 != 3)=true:=by simpa using h3
    obtain ⟨fn,tmps,assign,body,hy,hR⟩:=yield_wide (m' := n - 1) (hY _ (2,x2) wr hJs (sd_pre2 h3))
    have HE:Hid (sdF 0 ([x0,x1,x2].take 2) ++ [(2,x2)]=sdF 0 ([x0,x1,x2].take 3)):=by show _=_;simp [sdF,h3]
    replace hy:(Instr.yield l #[.int .i64 2,.int .i64 x2]).run Tryz.prog wr=.ok (.round l fn tmps assign body) wr:=hy
    clear hJs h3
    gi_wp2
    refine ⟨fun h=>(by cases h),hR.mono ?_⟩
    rintro e W3 ⟨rfl,hJ3,_⟩
    rw [HE.out] at hJ3
    gi_wp2
    go_roundw
    case rel=>exact ⟨3,by omega,by first | rfl | go_num,hJ3⟩
    case measure=>simp [intOf] <;> omega
  ·gi_wp2
   go_end0
   exact ⟨⟨_,rfl⟩,hJs⟩

end Go.Proofs.YtdhdnppbgaikfaaGreatDoor
namespace Go.Proofs.YtdhdnppbgaikfaaGreatDoor
open Go.RowKit Go.Shelf
set_option maxRecDepth 100000
attribute [local go_sem] Oper.semAt_some
/-- What a round of who collects votes leaves as it lay: all but its own record, and cells of votes. -/
def keepO:Obj→Bool
 | .cells _ t _=>t != 44 && t != 30
 | _=>true

structure KpV (l:Nat) (W W' : World):Prop where
 size:W.heap.size≤W'.heap.size
 same:∀ k o,W.heap[k]? = some o→k≠l→keepO o=true→W'.heap[k]? = some o

theorem KpV.trans {l:Nat} {A B C:World} (h:KpV l A B) (h' : KpV l B C):KpV l A C:=⟨Nat.le_trans h.size h'.size,fun k o hk hn ho=>h'.same k o (h.same k o hk hn ho) hn ho⟩

theorem KpV.put (W:World) (l:Nat) (r r' : Loop) (h:W.heap[l]? = some (.loop r)):KpV l W (W.putObj l (.loop r')):=⟨by rw [World.putObj_size];exact Nat.le_refl _,fun k o hk hn _=>(World.putObj_heap_other hn).trans hk⟩

theorem Blk.kpv {l b:Nat} {W W' : World} {t:TypeId} {cs:Array Value} (h:Blk W b t cs) (hk:KpV l W W') (hl:b≠l) (ht:(t != 44 && t != 30)=true):Blk W' b t cs:=hk.same b _ h hl ht

theorem KpV.keeps {l B:Nat} {W W' : World} (h:KpV l W W') (hl:l < B):KeepsFrom B W W' := ⟨h.size,fun k o hk h0 ho=>h.same k o h0 (by omega) (by cases o <;> simp_all [keepO,Obj.isCells])⟩

theorem OwnFrom.mono {β:Type} {B B' : Nat} {I:β→World→Prop} (h:OwnFrom B I) (hB:B≤B'):OwnFrom B' I:=fun s W W' row hs hg hr=>h s W W' row hs hg (fun r e=>⟨Nat.le_trans hB (hr r e).1,(hr r e).2⟩)

theorem blk_from {β:Type} (B b:Nat) (t:TypeId) (cs:Array Value):OwnFrom B (fun (_:β) W=>Blk W b t cs):=fun s A C row h hg hr=>by
 refine h.grown hg ?_
 intro e
 obtain ⟨_,o,ho,hc⟩:=hr b e.symm
 unfold Blk at h
 rw [h] at ho
 simp only [Option.some.injEq] at ho
 subst ho
 simp [Obj.isCells] at hc

theorem def_from {β:Type} {B:Nat} (Ds:List Nat) (h:∀ D∈Ds,D < B):OwnFrom B (fun (_:β) W=>∀ D∈Ds,W.heap[D]? = some (.deferred (some []))):=fun s A C row hs hg hr D hD=>by
 have hk:=hs D hD
 exact (hg.block D (Array.getElem?_eq_some_iff.1 hk).1 (fun e=>by have:=(hr D e.symm).1;have:=h D hD;omega)).trans hk

theorem size_from {β:Type} (B N:Nat):OwnFrom B (fun (_:β) (W:World)=>N≤W.heap.size):=fun s A C row hs hg hr=>Nat.le_trans hs hg.size

/-- The marks of loops that are over: nothing was put off. -/
theorem leaves_marks {n:Nat} {P:Program} {fn:Func} {tmps:Array Value} {R:Ending→World→Prop} {B:Nat} (J:World→Prop) (hJ:∀ W D,J W→B≤D→W.heap[D]? = some (.deferred (some []))→J (W.putObj D (.deferred none)))
  (hres:∀ w,(results fn tmps).run P w=.ok (.tuple #[]) w) (hfin:∀ W,J W→R (.returned (.tuple #[])) W):∀ (Ds:List Nat) (W:World),J W→Ds.Nodup→(∀ D∈Ds,B≤D∧W.heap[D]? = some (.deferred (some []))) →
  LeavesInM Fence.wide n P fn tmps R (Ds.map (fun D=>({ target:=.collected D,args:=#[] }:Deferred))) .returning W
 | [],W,h,_,_=>⟨_,hres W,hfin W h⟩
 | D :: Ds,W,h,hn,hd=>by
  obtain ⟨hn1,hn2⟩:=List.nodup_cons.1 hn
  have h1:=hd D (by simp)
  refine ⟨by simp,.inl ⟨D,_,rfl,run_takeDeferred h1.2,?_⟩⟩
  exact leaves_marks J hJ hres hfin Ds _ (hJ W D h h1.1 h1.2) hn2 (fun E hE=>⟨(hd E (by simp [hE])).1,(World.putObj_heap_other (fun e=>hn1 (by rw [← e];exact hE))).trans (hd E (by simp [hE])).2⟩)

def encB (x:VoteD):Array Value:=#[balV x]

theorem balV_1 (r n v:Int):balV ⟨1,r,n,v⟩=.iface 103 (.agg #[.int .i64 r,.int .i64 n,.int .i64 v]):=if_pos rfl

theorem balV_2 (r n v:Int):balV ⟨2,r,n,v⟩=.iface 104 (.agg #[.int .i64 r,.int .i64 n,.int .i64 v]):=(if_neg (show ¬ (2:Int)=1 by decide)).trans (if_pos rfl)

theorem balV_3 (r n v:Int):balV ⟨3,r,n,v⟩=.iface 106 (.agg #[.int .i64 n,.int .i64 v]):=(if_neg (show ¬ (3:Int)=1 by decide)).trans (if_neg (show ¬ (3:Int)=2 by decide))

theorem ballots_any (L:List Value) (w:World) (hl:L.length=30) (hone:L.toArray.all (·.oneCell')=true) :
  Calls Tryz.prog 18 #[.agg L.toArray] w fun e w' => e=.returned (.func (.func 43) #[] #[.pointer (some ⟨w.heap.size,0,none⟩)])∧w' = w.alloc (.cells L.toArray 58):=by
 have hmf:∀ (fn:Fn) (first cap:Array Value) (w:World),(Instr.makeFunc fn first cap).run Tryz.prog w=.ok (.func fn first cap) w:=fun _ _ _ _=>rfl
 go_enter Tryz.func18,Tryz.ntmps18
 go_wp2
 go_ret
 exact ⟨rfl,rfl⟩

theorem wide_call10 {n f:Nat} {args:Array Value} {w:World} {R:Ending→World→Prop} (h:Calls Tryz.prog f args w R):CallsIn Fence.wide n Tryz.prog f args w R:=callsIn_wide.2 h

theorem vt_split (rs:List RoundE) (k:Nat) (hk:k < rs.length):vtR 0 rs=vtR 0 (rs.take k) ++ (rvF 1 (k:Int) 0 (rs.getD k rnd0).rep ++ (rvF 2 (k:Int) 0 (rs.getD k rnd0).pro ++ vtR (k + 1) (rs.drop (k + 1)))):=by
 have h1:=vtR_app (rs.take (k + 1)) (rs.drop (k + 1)) 0
 rw [List.take_append_drop,vtR_take rs k hk,List.length_take,Nat.min_eq_left (by omega),Nat.zero_add] at h1
 rw [h1]
 simp only [List.append_assoc]

theorem pre_map {α β:Type} {f:α→β} {ps xs:List α} {p:α} (h:ps ++ [p] <+: xs) (A C:List β):(A ++ ps.map f) ++ [f p] <+: A ++ (xs.map f ++ C):=by
 obtain ⟨t,rfl⟩:=h
 exact ⟨t.map f ++ C,by simp⟩

theorem three_of {zs:List Int} (h:zs.length=3):∃ a b c,zs=[a,b,c]:=by
 match zs,h with
 | [a,b,c],_=>exact ⟨a,b,c,rfl⟩

set_option maxRecDepth 100000 in
set_option maxHeartbeats 16000000 in
theorem ballots_hands (Bb:Nat) (has:Bool) (vb:Value) (rs:List RoundE) (dec:List Int) (w:World) (hB:Blk w Bb 58 (brdC has vb rs dec).toArray) (hF:Frm rs dec) :
  Hands Tryz.prog 43 #[.pointer (some ⟨Bb,0,none⟩)] encB KpV (vtR 0 rs ++ rvF 3 0 0 dec) w:=by
 intro n l J W hW hl0 hl hJ hY h0
 have hBl:=hB.lt
 have BB0:=hB.below hW
 have hb0:Below W.heap.size W (W.alloc (.cells #[.func (.yield l) #[] #[]] 98)):=(Below.refl _ _).alloc (Nat.le_refl _) _
 have BY0:=Blk.new W 98 #[.func (.yield l) #[] #[]]
 have hJ0:J [] (W.alloc (.cells #[.func (.yield l) #[] #[]] 98)):=hJ.alloc _ h0
 replace BB0:=BB0.below hb0
 have hz0:(W.alloc (.cells #[.func (.yield l) #[] #[]] 98)).heap.size=W.heap.size + 1:=World.size_alloc _ _
 have cn:(W.alloc (.cells #[.func (.yield l) #[] #[]] 98)).cell? ⟨Bb,0,none⟩=some (.int .i64 (rs.length:Int)):=BB0.cell 0 _ (by rw [List.getElem?_toArray];exact (brd_rnd hF.w hF.h4 0 (by omega)).trans (rnd_cnt rs))
 have h4:=hF.h4
 have hl4:(rs.length:Int)≤4:=by omega
 clear hb0 hB h0
 refine callsIn_of_wp_marks Tryz.func43 rfl trivial ?_ rfl
 simp only [Tryz.ntmps43,List.size_toArray,List.length_cons,List.length_nil,Nat.reduceAdd,Nat.reduceSub,Array.replicate_succ,Array.replicate_zero,List.push_toArray,List.append_toArray,List.nil_append,List.cons_append]
 gi_wp2
 generalize hWz:W.alloc (.cells #[.func (.yield l) #[] #[]] 98)=Wz at *
 clear hWz cn
 obtain ⟨By,hBy⟩:∃ By,By=W.heap.size:=⟨_,rfl⟩
 rw [← hBy] at BY0 hz0 ⊢
 have hByl:l < By:=by omega
 have hBW0:W.heap.size≤By:=by omega
 have hBbl:Bb≠l:=by omega
 clear hBy
 refine wpIn_loop (fun a' wr=>∃ (k:Nat) (Ds:List Nat) (u3 u4 u5 u6 u7 u8 u9 u14 u15 u16 u17 u18 u19 u20 u21 u22 u23 u24 u25 u26 u27 u28 u29 u30 u31 u32 u33 u34 u35 u36 u37 u38 u39 u40 u41 u42 u43 u44 u45 u46 u47 u48 u49 u50 u51 u52 u53 u54 u55 u56 u57 u58 u59 u60 u61 u62:Value),k≤rs.length∧J (vtR 0 (rs.take k)) wr∧Blk wr Bb 58 (brdC has vb rs dec).toArray∧Blk wr By 98 #[.func (.yield l) #[] #[]]∧(Ds.Nodup∧∀ D∈Ds,By < D∧wr.heap[D]? = some (.deferred (some [])))∧By < wr.heap.size ∧
   a' = { tmps:=#[.func (.yield l) #[] #[],.pointer (some ⟨Bb,0,none⟩),.pointer (some ⟨By,0,none⟩),u3,u4,u5,u6,u7,u8,u9,.pointer (some ⟨Bb,0,none⟩),.pointer (some ⟨Bb,0,none⟩),.int .i64 (rs.length:Int),.int .i64 (k:Int),u14,u15,u16,u17,u18,u19,u20,u21,u22,u23,u24,u25,u26,u27,u28,u29,u30,u31,u32,u33,u34,u35,u36,u37,u38,u39,u40,u41,u42,u43,u44,u45,u46,u47,u48,u49,u50,u51,u52,u53,u54,u55,u56,u57,u58,u59,u60,u61,u62],defers:=Ds.map (fun D=>({ target:=.collected D,args:=#[] }:Deferred)) })
  (fun a' _=>rs.length - (intOf (a'.tmps.getD 13 undef)).toNat) ⟨0,[],undef,undef,undef,undef,undef,undef,undef,undef,undef,undef,undef,undef,undef,undef,undef,undef,undef,undef,undef,undef,undef,undef,undef,undef,undef,undef,undef,undef,undef,undef,undef,undef,undef,undef,undef,undef,undef,undef,undef,undef,undef,undef,undef,undef,undef,undef,undef,undef,undef,undef,undef,undef,undef,undef,undef,undef,by omega,hJ0,BB0,BY0,⟨by simp,by simp⟩,by omega,rfl⟩ ?_
 rintro a' wr ⟨k,Ds,u3,u4,u5,u6,u7,u8,u9,u14,u15,u16,u17,u18,u19,u20,u21,u22,u23,u24,u25,u26,u27,u28,u29,u30,u31,u32,u33,u34,u35,u36,u37,u38,u39,u40,u41,u42,u43,u44,u45,u46,u47,u48,u49,u50,u51,u52,u53,u54,u55,u56,u57,u58,u59,u60,u61,u62,hk,hJ1,BB,BY,⟨hDn,hDd⟩,hszw,rfl⟩
 clear hJ0 BB0 BY0 hz0
 by_cases hlt:k < rs.length
 ·obtain ⟨l1,l2⟩:=wel_at hF.w k hlt
  obtain ⟨a0,a1,a2,hra⟩:=three_of l1
  obtain ⟨b0,b1,b2,hrb⟩:=three_of l2
  have hcb:∀ j,j < 6→(brdC has vb rs dec).toArray[1 + k * 6 + j]? = some (iv ([a0,a1,a2,b0,b1,b2].getD j 0)):=fun j hj=>by
   rw [List.getElem?_toArray,brd_rnd hF.w hF.h4 _ (by omega),rnd_in hF.w k hlt j hj]
   unfold rowC
   rw [hra,hrb]
   match j,hj with
   | 0,_=>rfl
   | 1,_=>rfl
   | 2,_=>rfl
   | 3,_=>rfl
   | 4,_=>rfl
   | 5,_=>rfl
  have HP1:Hid (∀ (ps:List (Nat × Int)) (p:Nat × Int),ps ++ [p] <+: sdF 0 [a0,a1,a2]→(vtR 0 (rs.take k) ++ ps.map (fun p=>(⟨1,(k:Int),(p.1:Int),p.2⟩:VoteD))) ++ [(⟨1,(k:Int),(p.1:Int),p.2⟩:VoteD)] <+: vtR 0 rs ++ rvF 3 0 0 dec):=fun ps p h=>by
   rw [vt_split rs k hlt,hra,rvF_sdF 1 (k:Int) [a0,a1,a2]]
   have:=pre_map (f:=fun p:Nat × Int=>(⟨1,(k:Int),(p.1:Int),p.2⟩:VoteD)) h (vtR 0 (rs.take k)) (rvF 2 (k:Int) 0 (rs.getD k rnd0).pro ++ (vtR (k + 1) (rs.drop (k + 1)) ++ rvF 3 0 0 dec))
   simpa only [List.append_assoc] using this
  have HP2:Hid (∀ (ps:List (Nat × Int)) (p:Nat × Int),ps ++ [p] <+: sdF 0 [b0,b1,b2]→((vtR 0 (rs.take k) ++ (sdF 0 [a0,a1,a2]).map (fun p=>(⟨1,(k:Int),(p.1:Int),p.2⟩:VoteD))) ++ ps.map (fun p=>(⟨2,(k:Int),(p.1:Int),p.2⟩:VoteD))) ++ [(⟨2,(k:Int),(p.1:Int),p.2⟩:VoteD)] <+: vtR 0 rs ++ rvF 3 0 0 dec):=fun ps p h=>by
   rw [vt_split rs k hlt,hra,hrb,rvF_sdF 1 (k:Int) [a0,a1,a2],rvF_sdF 2 (k:Int) [b0,b1,b2]]
   have:=pre_map (f:=fun p:Nat × Int=>(⟨2,(k:Int),(p.1:Int),p.2⟩:VoteD)) h (vtR 0 (rs.take k) ++ (sdF 0 [a0,a1,a2]).map (fun p=>(⟨1,(k:Int),(p.1:Int),p.2⟩:VoteD))) (vtR (k + 1) (rs.drop (k + 1)) ++ rvF 3 0 0 dec)
   simpa only [List.append_assoc] using this
  have hki:(k:Int) < (rs.length:Int):=by omega
  have hk4:(k:Int) < 4:=by omega
  -- the round's own box
  have hb1:Below wr.heap.size wr (wr.alloc (.cells #[.int .i64 (k:Int)] 2)):=(Below.refl _ _).alloc (Nat.le_refl _) _
  have BR:=Blk.new wr 2 #[.int .i64 (k:Int)]
  have hJ2:J (vtR 0 (rs.take k)) (wr.alloc (.cells #[.int .i64 (k:Int)] 2)):=hJ.alloc _ hJ1
  have hDf:∀ D∈Ds,(wr.alloc (.cells #[.int .i64 (k:Int)] 2)).heap[D]? = some (.deferred (some [])):=fun D hD=>(hb1.block D (Array.getElem?_eq_some_iff.1 (hDd D hD).2).1).trans (hDd D hD).2
  replace BB:=BB.below hb1
  replace BY:=BY.below hb1
  have hz1:(wr.alloc (.cells #[.int .i64 (k:Int)] 2)).heap.size=wr.heap.size + 1:=World.size_alloc _ _
  have q0:=BB.cell (1 + k * 6) _ (hcb 0 (by omega))
  have q1:=BB.cell (1 + k * 6 + 1) _ (hcb 1 (by omega))
  have q2:=BB.cell (1 + k * 6 + 2) _ (hcb 2 (by omega))
  gi_wp2_with fail
  refine ⟨trivial,fun h=>(by cases h),(wide_call10 (said_any a0 a1 a2 _)).mono ?_⟩
  rintro e w4 ⟨rfl,rfl⟩
  clear q0 q1 q2
  obtain ⟨Br,hBr⟩:∃ Br,Br=wr.heap.size:=⟨_,rfl⟩
  generalize hV1:wr.alloc (.cells #[.int .i64 (k:Int)] 2)=V1 at *
  have hBr0:By < Br∧Br < V1.heap.size:=by omega
  rw [← hBr] at BR hz1 ⊢
  have hb2:Below V1.heap.size V1 (V1.alloc (.cells #[.int .i64 a0,.int .i64 a1,.int .i64 a2] 51)):=(Below.refl _ _).alloc (Nat.le_refl _) _
  have BS:=Blk.new V1 51 #[.int .i64 a0,.int .i64 a1,.int .i64 a2]
  replace hJ1:J (vtR 0 (rs.take k)) (V1.alloc (.cells #[.int .i64 a0,.int .i64 a1,.int .i64 a2] 51)):=hJ.alloc _ hJ2
  replace hDf:∀ D∈Ds,(V1.alloc (.cells #[.int .i64 a0,.int .i64 a1,.int .i64 a2] 51)).heap[D]? = some (.deferred (some [])):=fun D hD=>(hb2.block D (Array.getElem?_eq_some_iff.1 (hDf D hD)).1).trans (hDf D hD)
  have hDl:∀ D∈Ds,D < V1.heap.size:=fun D hD=>by have:=(Array.getElem?_eq_some_iff.1 (hDd D hD).2).1;omega
  replace BB:=BB.below hb2
  replace BY:=BY.below hb2
  replace BR:=BR.below hb2
  have hz2:(V1.alloc (.cells #[.int .i64 a0,.int .i64 a1,.int .i64 a2] 51)).heap.size=V1.heap.size + 1:=World.size_alloc _ _
  obtain ⟨Bs,hBs⟩:∃ Bs,Bs=V1.heap.size:=⟨_,rfl⟩
  generalize hV2:V1.alloc (.cells #[.int .i64 a0,.int .i64 a1,.int .i64 a2] 51)=V2 at *
  rw [← hBs] at BS ⊢
  have hBs0:Br < Bs∧Bs < V2.heap.size:=by omega
  have hBW:W.heap.size≤V2.heap.size:=by omega
  have hDs:∀ D∈Ds,l < D∧D < V2.heap.size:=fun D hD=>⟨by have:=(hDd D hD).1;omega,by have:=hDl D hD;omega⟩
  have hDy:∀ D∈Ds,By < D:=fun D hD=>(hDd D hD).1
  clear hV1 hV2 hBr hBs hz1 hz2 hb1 hb2 hJ2 hDd hDl
  gi_wp2_with fail
  refine wpIn_hands (gf:=77) (lb:=#[.pointer (some ⟨Bs,0,none⟩)]) rfl (enters_of Tryz.func77 (by kernel_rfl) rfl) (said1_hands Bs a0 a1 a2 V2 BS) (fun _ _=>trivial) (fun _ _ _ _ _=>trivial) (fun _=>rfl)
   (fun ps W=>J (vtR 0 (rs.take k) ++ ps.map (fun p=>(⟨1,(k:Int),(p.1:Int),p.2⟩:VoteD))) W∧Blk W Bb 58 (brdC has vb rs dec).toArray∧Blk W By 98 #[.func (.yield l) #[] #[]]∧Blk W Br 2 #[.int .i64 (k:Int)]∧(∀ D∈Ds,W.heap[D]? = some (.deferred (some [])))∧V2.heap.size≤W.heap.size) (OwnFrom.and (fun s A C row hs hg hr=>hJ _ A C row hs hg (fun r e=>⟨Nat.le_trans hBW (hr r e).1,(hr r e).2⟩)) (OwnFrom.and (blk_from _ _ _ _) (OwnFrom.and (blk_from _ _ _ _) (OwnFrom.and (blk_from _ _ _ _) (OwnFrom.and (def_from Ds (fun D hD=>(hDs D hD).2)) (size_from _ _)))))) ⟨by simpa using hJ1,BB,BY,BR,hDf,Nat.le_refl _⟩ ?round1 ?done1
  case round1=>
   intro l' ps p W0 hl' hpx
   obtain ⟨pn,pv⟩:=p
   dsimp only [encP]
   gi_wp2
   refine ⟨by trivial,?_⟩
   rintro W2 ⟨hJ2,BB,BY,BR,hDf,hsz⟩ hl2
   have hpre:(vtR 0 (rs.take k) ++ ps.map (fun p=>(⟨1,(k:Int),(p.1:Int),p.2⟩:VoteD))) ++ [(⟨1,(k:Int),(pn:Int),pv⟩:VoteD)] <+: vtR 0 rs ++ rvF 3 0 0 dec:=HP1.out ps (pn,pv) hpx
   obtain ⟨fn,tmps,assign,body,hy,hR⟩:=yield_in (m' := n - 1) (l₀:=l') (hY _ (⟨1,(k:Int),(pn:Int),pv⟩:VoteD) W2 hJ2 hpre)
   replace hy:(Instr.yield l #[.iface 103 (.agg #[.int .i64 (k:Int),.int .i64 (pn:Int),.int .i64 pv])]).run Tryz.prog W2=.ok (.round l fn tmps assign body) W2:=by
    have:(Instr.yield l #[balV ⟨1,(k:Int),(pn:Int),pv⟩]).run Tryz.prog W2=.ok (.round l fn tmps assign body) W2:=hy
    rw [balV_1] at this
    exact this
   have y0:=BY.cell 0 _ rfl
   have r0:=BR.cell 0 _ rfl
   have HJ9:Hid (∀ W3,J ((vtR 0 (rs.take k) ++ ps.map (fun p=>(⟨1,(k:Int),(p.1:Int),p.2⟩:VoteD))) ++ [(⟨1,(k:Int),(pn:Int),pv⟩:VoteD)]) W3→J (vtR 0 (rs.take k) ++ (ps ++ [(pn,pv)]).map (fun p=>(⟨1,(k:Int),(p.1:Int),p.2⟩:VoteD))) W3):=fun W3 h=>by simpa using h
   clear hpre
   gi_wp2
   refine ⟨fun h=>(by cases h),hR.mono ?_⟩
   rintro e W3 ⟨rfl,hJ3,hK3⟩
   have BB3:=BB.kpv hK3 (by omega) (by decide)
   have BY3:=BY.kpv hK3 (by omega) (by decide)
   have BR3:=BR.kpv hK3 (by omega) (by decide)
   have hDf3:∀ D∈Ds,W3.heap[D]? = some (.deferred (some [])):=fun D hD=>hK3.same D _ (hDf D hD) (by have:=(hDs D hD).1;omega) rfl
   have hsz3:=Nat.le_trans hsz hK3.size
   have hJ9:=HJ9.out W3 hJ3
   have hKF:KeepsFrom V2.heap.size W2 W3:=hK3.keeps (by omega)
   clear hJ3 hK3 BB BY hDf hsz hJ2 y0 r0 BR HJ9
   gi_wp2
   exact ⟨hKF,trivial,hJ9,BB3,BY3,BR3,hDf3,hsz3⟩
  case done1=>
   rintro D1 W1 hD1 ⟨hJ2,BB,BY,BR,hDf,hsz⟩ hDD1
   replace hJ1:=hJ2
   clear hJ2 BS
   have hDnot:D1 ∉ Ds:=fun h=>by have:=(hDs D1 h).2;omega
   replace hDy:∀ D∈D1 :: Ds,By < D:=fun D hD=>by
    rcases List.mem_cons.1 hD with rfl | hD
    ·omega
    ·exact hDy D hD
   replace hDf:∀ D∈D1 :: Ds,W1.heap[D]? = some (.deferred (some [])):=fun D hD=>by
    rcases List.mem_cons.1 hD with rfl | hD
    ·exact hDD1
    ·exact hDf D hD
   clear hDs
   have hDl:∀ D∈D1 :: Ds,D < W1.heap.size:=fun D hD=>(Array.getElem?_eq_some_iff.1 (hDf D hD)).1
   have q3:=BB.cell (1 + k * 6 + 3) _ (hcb 3 (by omega))
   have q4:=BB.cell (1 + k * 6 + 3 + 1) _ (hcb 4 (by omega))
   have q5:=BB.cell (1 + k * 6 + 3 + 2) _ (hcb 5 (by omega))
   have r0:=BR.cell 0 _ rfl
   gi_wp2_with fail
   refine ⟨trivial,fun h=>(by cases h),(wide_call10 (said_any b0 b1 b2 _)).mono ?_⟩
   rintro e w4 ⟨rfl,rfl⟩
   clear q3 q4 q5 r0
   have hb2:Below W1.heap.size W1 (W1.alloc (.cells #[.int .i64 b0,.int .i64 b1,.int .i64 b2] 51)):=(Below.refl _ _).alloc (Nat.le_refl _) _
   have BS:=Blk.new W1 51 #[.int .i64 b0,.int .i64 b1,.int .i64 b2]
   replace hJ1:=hJ.alloc (.cells #[.int .i64 b0,.int .i64 b1,.int .i64 b2] 51) hJ1
   replace hDf:∀ D∈D1 :: Ds,(W1.alloc (.cells #[.int .i64 b0,.int .i64 b1,.int .i64 b2] 51)).heap[D]? = some (.deferred (some [])):=fun D hD=>(hb2.block D (Array.getElem?_eq_some_iff.1 (hDf D hD)).1).trans (hDf D hD)
   replace BB:=BB.below hb2
   replace BY:=BY.below hb2
   replace BR:=BR.below hb2
   have hz2:(W1.alloc (.cells #[.int .i64 b0,.int .i64 b1,.int .i64 b2] 51)).heap.size=W1.heap.size + 1:=World.size_alloc _ _
   obtain ⟨Bs,hBs⟩:∃ Bs,Bs=W1.heap.size:=⟨_,rfl⟩
   generalize hV2:(W1.alloc (.cells #[.int .i64 b0,.int .i64 b1,.int .i64 b2] 51))=V4 at *
   rw [← hBs] at BS ⊢
   have hBs0:Br < Bs∧Bs < V4.heap.size:=by omega
   replace hBW:W.heap.size≤V4.heap.size:=by omega
   have hDs:∀ D∈D1 :: Ds,l < D∧D < V4.heap.size:=fun D hD=>⟨by have:=hDy D hD;omega,by have:=hDl D hD;omega⟩
   have hV24:V2.heap.size≤V4.heap.size:=by omega
   clear hV2 hBs hz2 hb2 hDl
   gi_wp2_with fail
   refine wpIn_hands (gf:=77) (lb:=#[.pointer (some ⟨Bs,0,none⟩)]) rfl (enters_of Tryz.func77 (by kernel_rfl) rfl) (said1_hands Bs b0 b1 b2 V4 BS) (fun _ _=>trivial) (fun _ _ _ _ _=>trivial) (fun _=>rfl)
    (fun ps W=>J ((vtR 0 (rs.take k) ++ (sdF 0 [a0,a1,a2]).map (fun p=>(⟨1,(k:Int),(p.1:Int),p.2⟩:VoteD))) ++ ps.map (fun p=>(⟨2,(k:Int),(p.1:Int),p.2⟩:VoteD))) W∧Blk W Bb 58 (brdC has vb rs dec).toArray∧Blk W By 98 #[.func (.yield l) #[] #[]]∧Blk W Br 2 #[.int .i64 (k:Int)]∧(∀ D∈(D1 :: Ds),W.heap[D]? = some (.deferred (some [])))∧V4.heap.size≤W.heap.size) (OwnFrom.and (fun s A C row hs hg hr=>hJ _ A C row hs hg (fun r e=>⟨Nat.le_trans hBW (hr r e).1,(hr r e).2⟩)) (OwnFrom.and (blk_from _ _ _ _) (OwnFrom.and (blk_from _ _ _ _) (OwnFrom.and (blk_from _ _ _ _) (OwnFrom.and (def_from (D1 :: Ds) (fun D hD=>(hDs D hD).2)) (size_from _ _)))))) ⟨by simpa using hJ1,BB,BY,BR,hDf,Nat.le_refl _⟩ ?round2 ?done2
   case round2=>
    intro l' ps p W0 hl' hpx
    obtain ⟨pn,pv⟩:=p
    dsimp only [encP]
    gi_wp2
    refine ⟨by trivial,?_⟩
    rintro W2 ⟨hJ2,BB,BY,BR,hDf,hsz⟩ hl2
    have hpre:((vtR 0 (rs.take k) ++ (sdF 0 [a0,a1,a2]).map (fun p=>(⟨1,(k:Int),(p.1:Int),p.2⟩:VoteD))) ++ ps.map (fun p=>(⟨2,(k:Int),(p.1:Int),p.2⟩:VoteD))) ++ [(⟨2,(k:Int),(pn:Int),pv⟩:VoteD)] <+: vtR 0 rs ++ rvF 3 0 0 dec:=HP2.out ps (pn,pv) hpx
    obtain ⟨fn,tmps,assign,body,hy,hR⟩:=yield_in (m' := n - 1) (l₀:=l') (hY _ (⟨2,(k:Int),(pn:Int),pv⟩:VoteD) W2 hJ2 hpre)
    replace hy:(Instr.yield l #[.iface 104 (.agg #[.int .i64 (k:Int),.int .i64 (pn:Int),.int .i64 pv])]).run Tryz.prog W2=.ok (.round l fn tmps assign body) W2:=by
     have:(Instr.yield l #[balV ⟨2,(k:Int),(pn:Int),pv⟩]).run Tryz.prog W2=.ok (.round l fn tmps assign body) W2:=hy
     rw [balV_2] at this
     exact this
    have y0:=BY.cell 0 _ rfl
    have r0:=BR.cell 0 _ rfl
    have HJ9:Hid (∀ W3,J (((vtR 0 (rs.take k) ++ (sdF 0 [a0,a1,a2]).map (fun p=>(⟨1,(k:Int),(p.1:Int),p.2⟩:VoteD))) ++ ps.map (fun p=>(⟨2,(k:Int),(p.1:Int),p.2⟩:VoteD))) ++ [(⟨2,(k:Int),(pn:Int),pv⟩:VoteD)]) W3→J ((vtR 0 (rs.take k) ++ (sdF 0 [a0,a1,a2]).map (fun p=>(⟨1,(k:Int),(p.1:Int),p.2⟩:VoteD))) ++ (ps ++ [(pn,pv)]).map (fun p=>(⟨2,(k:Int),(p.1:Int),p.2⟩:VoteD))) W3):=fun W3 h=>by simpa using h
    clear hpre
    gi_wp2
    refine ⟨fun h=>(by cases h),hR.mono ?_⟩
    rintro e W3 ⟨rfl,hJ3,hK3⟩
    have BB3:=BB.kpv hK3 (by omega) (by decide)
    have BY3:=BY.kpv hK3 (by omega) (by decide)
    have BR3:=BR.kpv hK3 (by omega) (by decide)
    have hDf3:∀ D∈(D1 :: Ds),W3.heap[D]? = some (.deferred (some [])):=fun D hD=>hK3.same D _ (hDf D hD) (by have:=(hDs D hD).1;omega) rfl
    have hsz3:=Nat.le_trans hsz hK3.size
    have hJ9:=HJ9.out W3 hJ3
    have hKF:KeepsFrom V4.heap.size W2 W3:=hK3.keeps (by omega)
    clear hJ3 hK3 BB BY hDf hsz hJ2 y0 r0 BR HJ9
    gi_wp2
    exact ⟨hKF,trivial,hJ9,BB3,BY3,BR3,hDf3,hsz3⟩
   case done2=>
    rintro D2 W2 hD2 ⟨hJ2,BB,BY,BR,hDf,hsz⟩ hDD2
    replace hJ1:J (vtR 0 (rs.take (k + 1))) W2:=by rw [vtR_take rs k hlt,rvF_sdF,rvF_sdF,hra,hrb,← List.append_assoc];exact hJ2
    clear hJ2 BS BR HP1 HP2 hcb hra hrb l1 l2
    have hq1:By < D1∧D1 < V4.heap.size:=⟨by omega,by have:=(hDs D1 (by simp)).2;omega⟩
    have hnd:(D2 :: D1 :: Ds).Nodup:=by
     refine List.nodup_cons.2 ⟨fun h=>?_,List.nodup_cons.2 ⟨hDnot,hDn⟩⟩
     have:=(hDs D2 h).2
     omega
    have hfin:∀ D∈D2 :: D1 :: Ds,By < D∧W2.heap[D]? = some (.deferred (some [])):=fun D hD=>by
     rcases List.mem_cons.1 hD with rfl | hD
     ·exact ⟨by omega,hDD2⟩
     ·exact ⟨hDy D hD,hDf D hD⟩
    gi_wp2
    refine ⟨⟨k + 1,D2 :: D1 :: Ds,_,_,_,_,_,_,_,_,_,_,_,_,_,_,_,_,_,_,_,_,_,_,_,_,_,_,_,_,_,_,_,_,_,_,_,_,_,_,_,_,_,_,_,_,_,_,_,_,_,_,_,_,_,_,_,_,by omega,hJ1,BB,BY,⟨hnd,hfin⟩,by omega,rfl⟩,?_⟩
    simp [intOf]
    omega
 ·have hkl:k=rs.length:=by omega
  subst hkl
  have hki:¬ (rs.length:Int) < (rs.length:Int):=by omega
  rw [List.take_length] at hJ1
  obtain ⟨a0,a1,a2,hdc⟩:=three_of hF.d
  have hcd:∀ j,j < 3→(brdC has vb rs dec).toArray[27 + j]? = some (iv ([a0,a1,a2].getD j 0)):=fun j hj=>by
   rw [List.getElem?_toArray,brd_dec hF.w hF.h4 hF.d j hj,hdc]
  have HP3:Hid (∀ (ps:List (Nat × Int)) (p:Nat × Int),ps ++ [p] <+: sdF 0 [a0,a1,a2]→(vtR 0 rs ++ ps.map (fun p=>(⟨3,0,(p.1:Int),p.2⟩:VoteD))) ++ [(⟨3,0,(p.1:Int),p.2⟩:VoteD)] <+: vtR 0 rs ++ rvF 3 0 0 dec):=fun ps p h=>by
   rw [hdc,rvF_sdF 3 0 [a0,a1,a2]]
   have:=pre_map (f:=fun p:Nat × Int=>(⟨3,0,(p.1:Int),p.2⟩:VoteD)) h (vtR 0 rs) []
   rw [List.append_nil] at this
   exact this
  have hDf:∀ D∈Ds,wr.heap[D]? = some (.deferred (some [])):=fun D hD=>(hDd D hD).2
  have hDy:∀ D∈Ds,By < D:=fun D hD=>(hDd D hD).1
  have hDl:∀ D∈Ds,D < wr.heap.size:=fun D hD=>(Array.getElem?_eq_some_iff.1 (hDf D hD)).1
  have q3:=BB.cell 27 _ (hcd 0 (by omega))
  have q4:=BB.cell (27 + 1) _ (hcd 1 (by omega))
  have q5:=BB.cell (27 + 2) _ (hcd 2 (by omega))
  clear hDd hlt
  gi_wp2_with fail
  refine ⟨trivial,fun h=>(by cases h),(wide_call10 (said_any a0 a1 a2 _)).mono ?_⟩
  rintro e w4 ⟨rfl,rfl⟩
  clear q3 q4 q5
  have hb2:Below wr.heap.size wr (wr.alloc (.cells #[.int .i64 a0,.int .i64 a1,.int .i64 a2] 51)):=(Below.refl _ _).alloc (Nat.le_refl _) _
  have BS:=Blk.new wr 51 #[.int .i64 a0,.int .i64 a1,.int .i64 a2]
  replace hJ1:=hJ.alloc (.cells #[.int .i64 a0,.int .i64 a1,.int .i64 a2] 51) hJ1
  replace hDf:∀ D∈Ds,(wr.alloc (.cells #[.int .i64 a0,.int .i64 a1,.int .i64 a2] 51)).heap[D]? = some (.deferred (some [])):=fun D hD=>(hb2.block D (Array.getElem?_eq_some_iff.1 (hDf D hD)).1).trans (hDf D hD)
  replace BB:=BB.below hb2
  replace BY:=BY.below hb2
  have hz2:(wr.alloc (.cells #[.int .i64 a0,.int .i64 a1,.int .i64 a2] 51)).heap.size=wr.heap.size + 1:=World.size_alloc _ _
  obtain ⟨Bs,hBs⟩:∃ Bs,Bs=wr.heap.size:=⟨_,rfl⟩
  generalize hV2:(wr.alloc (.cells #[.int .i64 a0,.int .i64 a1,.int .i64 a2] 51))=V4 at *
  rw [← hBs] at BS ⊢
  have hBs0:By < Bs∧Bs < V4.heap.size:=by omega
  have hBW:W.heap.size≤V4.heap.size:=by omega
  have hDs:∀ D∈Ds,l < D∧D < V4.heap.size:=fun D hD=>⟨by have:=hDy D hD;omega,by have:=hDl D hD;omega⟩
  clear hV2 hBs hz2 hb2 hDl
  gi_wp2_with fail
  refine wpIn_hands (gf:=77) (lb:=#[.pointer (some ⟨Bs,0,none⟩)]) rfl (enters_of Tryz.func77 (by kernel_rfl) rfl) (said1_hands Bs a0 a1 a2 V4 BS) (fun _ _=>trivial) (fun _ _ _ _ _=>trivial) (fun _=>rfl)
   (fun ps W=>J (vtR 0 rs ++ ps.map (fun p=>(⟨3,0,(p.1:Int),p.2⟩:VoteD))) W∧Blk W Bb 58 (brdC has vb rs dec).toArray∧Blk W By 98 #[.func (.yield l) #[] #[]]∧(∀ D∈Ds,W.heap[D]? = some (.deferred (some [])))∧V4.heap.size≤W.heap.size) (OwnFrom.and (fun s A C row hs hg hr=>hJ _ A C row hs hg (fun r e=>⟨Nat.le_trans hBW (hr r e).1,(hr r e).2⟩)) (OwnFrom.and (blk_from _ _ _ _) (OwnFrom.and (blk_from _ _ _ _) (OwnFrom.and (def_from Ds (fun D hD=>(hDs D hD).2)) (size_from _ _))))) ⟨by simpa using hJ1,BB,BY,hDf,Nat.le_refl _⟩ ?round3 ?done3
  case round3=>
   intro l' ps p W0 hl' hpx
   obtain ⟨pn,pv⟩:=p
   dsimp only [encP]
   gi_wp2
   refine ⟨by trivial,?_⟩
   rintro W2 ⟨hJ2,BB,BY,hDf,hsz⟩ hl2
   have hpre:(vtR 0 rs ++ ps.map (fun p=>(⟨3,0,(p.1:Int),p.2⟩:VoteD))) ++ [(⟨3,0,(pn:Int),pv⟩:VoteD)] <+: vtR 0 rs ++ rvF 3 0 0 dec:=HP3.out ps (pn,pv) hpx
   obtain ⟨fn,tmps,assign,body,hy,hR⟩:=yield_in (m' := n - 1) (l₀:=l') (hY _ (⟨3,0,(pn:Int),pv⟩:VoteD) W2 hJ2 hpre)
   replace hy:(Instr.yield l #[.iface 106 (.agg #[.int .i64 (pn:Int),.int .i64 pv])]).run Tryz.prog W2=.ok (.round l fn tmps assign body) W2:=by
    have:(Instr.yield l #[balV ⟨3,0,(pn:Int),pv⟩]).run Tryz.prog W2=.ok (.round l fn tmps assign body) W2:=hy
    rw [balV_3] at this
    exact this
   have y0:=BY.cell 0 _ rfl
   have HJ9:Hid (∀ W3,J ((vtR 0 rs ++ ps.map (fun p=>(⟨3,0,(p.1:Int),p.2⟩:VoteD))) ++ [(⟨3,0,(pn:Int),pv⟩:VoteD)]) W3→J (vtR 0 rs ++ (ps ++ [(pn,pv)]).map (fun p=>(⟨3,0,(p.1:Int),p.2⟩:VoteD))) W3):=fun W3 h=>by simpa using h
   clear hpre
   gi_wp2
   refine ⟨fun h=>(by cases h),hR.mono ?_⟩
   rintro e W3 ⟨rfl,hJ3,hK3⟩
   have BB3:=BB.kpv hK3 (by omega) (by decide)
   have BY3:=BY.kpv hK3 (by omega) (by decide)
   have hDf3:∀ D∈Ds,W3.heap[D]? = some (.deferred (some [])):=fun D hD=>hK3.same D _ (hDf D hD) (by have:=(hDs D hD).1;omega) rfl
   have hsz3:=Nat.le_trans hsz hK3.size
   have hJ9:=HJ9.out W3 hJ3
   have hKF:KeepsFrom V4.heap.size W2 W3:=hK3.keeps (by omega)
   clear hJ3 hK3 BB BY hDf hsz hJ2 y0 HJ9
   gi_wp2
   exact ⟨hKF,trivial,hJ9,BB3,BY3,hDf3,hsz3⟩
  case done3=>
   rintro D3 W3 hD3 ⟨hJ2,BB,BY,hDf,hsz⟩ hDD3
   replace hJ1:J (vtR 0 rs ++ rvF 3 0 0 dec) W3:=by rw [hdc,rvF_sdF];exact hJ2
   clear hJ2 BS HP3 hcd hdc
   have hnd:(D3 :: Ds).Nodup:=List.nodup_cons.2 ⟨fun h=>by have:=(hDs D3 h).2;omega,hDn⟩
   have hfin:∀ D∈D3 :: Ds,W.heap.size≤D∧W3.heap[D]? = some (.deferred (some [])):=fun D hD=>by
    rcases List.mem_cons.1 hD with rfl | hD
    ·exact ⟨by omega,hDD3⟩
    ·exact ⟨by have:=hDy D hD;omega,hDf D hD⟩
   gi_wp2
   exact leaves_marks (J:=J (vtR 0 rs ++ rvF 3 0 0 dec)) (B:=W.heap.size) (fun W' D h hD hd=>hJ.putObj _ h hD hd rfl) (fun u=>results_none rfl _ _ _) (fun W' h=>⟨⟨_,rfl⟩,h⟩) (D3 :: Ds) W3 hJ1 hnd hfin

end Go.Proofs.YtdhdnppbgaikfaaGreatDoor

/- Texts joined, with what the laws reach alone. -/
import Derived.Test.YtjjoahhnkpjolaaGreatDoorCFAW
import Derived.Defers
set_option linter.unusedVariables false
set_option linter.unusedSimpArgs false
namespace Go.Proofs.YtjjoahhnkpjolaaGreatDoor
open Go.RowKit
open Go.BigFrame
set_option maxRecDepth 100000
/-- A deed where it lies. -/
structure DeedQ where
 i:Int
 s:Int
 q:Int
 va:Value
 acts:List ActD
 code:Int
 val:Int
 lv:Value
 us:List UndoD

/-- Deeds that leave nothing; their acts lie in the memory of w0. -/
def deedNK (w0:World):Kind DeedQ where
 ty:=298
 size:=6
 cells p:=[.int .i64 p.i,.int .i64 p.s,.int .i64 p.q,p.va,.int .i64 p.code,.int .i64 p.val]
 own _ p:=actK.At w0 p.va p.acts
 rd _ p:=actK.At w0 p.va p.acts
 foot _:=[]
 len _:=rfl
 own_rd h:=h
 own_out h _ _:=h
 own_lt _ k hk:=by simp at hk
 rd_below h _:=h

/-- Deeds that leave what undoes them. -/
def deedUK (w0:World):Kind DeedQ where
 ty:=258
 size:=7
 cells p:=[.int .i64 p.i,.int .i64 p.s,.int .i64 p.q,p.va,.int .i64 p.code,.int .i64 p.val,p.lv]
 own w p:=actK.At w0 p.va p.acts∧undoK.Own w p.lv p.us
 rd w p:=actK.At w0 p.va p.acts∧undoK.At w p.lv p.us
 foot p:=undoK.fp p.lv p.us
 len _:=rfl
 own_rd h:=⟨h.1,h.2.at⟩
 own_out h ho hd:=⟨h.1,h.2.out ho hd⟩
 own_lt h:=h.2.lt
 rd_below h hb:=⟨h.1,h.2.below hb⟩

theorem infoDeedN:(Tryz.prog.info? 298).map (fun i=>(i.zero,i.size,i.bytes))=some (some (.agg #[.int .i64 0,.int .i64 0,.int .i64 0,.slice none 0 0,.int .i64 0,.int .i64 0]),6,72):=by kernel_rfl

theorem infoDeedU:(Tryz.prog.info? 258).map (fun i=>(i.zero,i.size,i.bytes))=some (some (.agg #[.int .i64 0,.int .i64 0,.int .i64 0,.slice none 0 0,.int .i64 0,.int .i64 0,.slice none 0 0]),7,88):=by kernel_rfl

set_option maxRecDepth 100000 in
set_option maxHeartbeats 4000000 in
theorem addN_any (rb:Nat) (d0 i0:Value) (r2 r3:Value) (m:Nat) (xs:List Value) (i s q:Int) (va:Value) (code val:Int) (vu:Value) (ia:Option Addr) (il ic:Nat) (w:World) (B:Blk w rb 149 #[d0,i0,r2,r3]) (ho:w.ownsRow 0 298 6 d0 m xs) (hrb:rb ∉ blk d0) (hm:m≤100) (hva:va.oneCell' = true) :
  Calls Tryz.prog 174 #[.pointer (some ⟨rb,0,none⟩),.agg #[.int .i64 i,.int .i64 s,.int .i64 q,va],.agg #[.int .i64 code,.int .i64 val,vu,.slice ia il ic],.agg #[]] w fun e w' => e=.returned (.tuple #[])∧∃ d1,Blk w' rb 149 #[d1,(if code=0 then .slice ia il ic else i0),r2,r3]∧w'.ownsRow 0 298 6 d1 (m + 1) (xs ++ [.int .i64 i,.int .i64 s,.int .i64 q,va,.int .i64 code,.int .i64 val])∧(d1.ownBlock=d0.ownBlock∨∃ g,d1.ownBlock=some g∧w.heap.size≤g)∧Out (rb :: blk d0) w w' := by
 obtain ⟨sa,sc,rfl⟩:=own_shape ho
 obtain ⟨it,hi,hz0,hz1,hz2⟩:=info_parts infoDeedN
 have hrl:=B.lt
 have hlt0:∀ k∈blk (Value.slice sa m sc),k < w.heap.size:=fun k hk=>(ho.lt k (by simpa [blk] using hk)).2
 have hb0:Below w.heap.size w (((w.alloc (.cells #[.int .i64 i,.int .i64 s,.int .i64 q,va] 158)).alloc (.cells #[.int .i64 code,.int .i64 val,vu,.slice ia il ic] 251)).alloc (.cells #[] 249)):=by go_grown
 have Bt:=(Blk.new w 158 #[.int .i64 i,.int .i64 s,.int .i64 q,va]).below (w' := (((w.alloc (.cells #[.int .i64 i,.int .i64 s,.int .i64 q,va] 158)).alloc (.cells #[.int .i64 code,.int .i64 val,vu,.slice ia il ic] 251)).alloc (.cells #[] 249))) (by go_grown)
 have Bn:=(Blk.new (w.alloc (.cells #[.int .i64 i,.int .i64 s,.int .i64 q,va] 158)) 251 #[.int .i64 code,.int .i64 val,vu,.slice ia il ic]).below (w' := (((w.alloc (.cells #[.int .i64 i,.int .i64 s,.int .i64 q,va] 158)).alloc (.cells #[.int .i64 code,.int .i64 val,vu,.slice ia il ic] 251)).alloc (.cells #[] 249))) (by go_grown)
 simp only [World.size_alloc] at Bn
 have hsW:w.heap.size + 1 < (((w.alloc (.cells #[.int .i64 i,.int .i64 s,.int .i64 q,va] 158)).alloc (.cells #[.int .i64 code,.int .i64 val,vu,.slice ia il ic] 251)).alloc (.cells #[] 249)).heap.size:=by simp only [World.size_alloc];omega
 replace B:=B.below hb0
 replace ho:=own_below ho hb0
 have hU0:Out (rb :: blk (.slice sa m sc)) w (((w.alloc (.cells #[.int .i64 i,.int .i64 s,.int .i64 q,va] 158)).alloc (.cells #[.int .i64 code,.int .i64 val,vu,.slice ia il ic] 251)).alloc (.cells #[] 249)):=Out.of_below hb0
 have HLO:Hid (∀ k∈blk (Value.slice sa m sc),k≠w.heap.size∧k≠w.heap.size + 1):=fun k hk=>by
  have:=hlt0 k hk
  exact ⟨by omega,by omega⟩
 go_enter Tryz.func174,Tryz.ntmps174
 go_wp2_with fail
 generalize (((w.alloc (.cells #[.int .i64 i,.int .i64 s,.int .i64 q,va] 158)).alloc (.cells #[.int .i64 code,.int .i64 val,vu,.slice ia il ic] 251)).alloc (.cells #[] 249))=W at *
 generalize hH:w.heap.size=H at *
 have hPW:Blk W rb 149 #[.slice sa m sc,i0,r2,r3]∧Blk W H 158 #[.int .i64 i,.int .i64 s,.int .i64 q,va]∧Blk W (H + 1) 251 #[.int .i64 code,.int .i64 val,vu,.slice ia il ic]:=⟨B,Bt,Bn⟩
 generalize hP:(fun u:World=>Blk u rb 149 #[.slice sa m sc,i0,r2,r3]∧Blk u H 158 #[.int .i64 i,.int .i64 s,.int .i64 q,va]∧Blk u (H + 1) 251 #[.int .i64 code,.int .i64 val,vu,.slice ia il ic])=PP
 have hP0:PP W:=by subst hP;exact hPW
 have cc0:∀ u:KeepP PP,u.val.cell? ⟨rb,0,none⟩=some (.slice sa m sc):=fun u=>by have:=u.isP;subst hP;exact this.1.cell 0 _ rfl
 have ct0:∀ u:KeepP PP,u.val.cell? ⟨H,0,none⟩=some (.int .i64 i):=fun u=>by have:=u.isP;subst hP;exact this.2.1.cell 0 _ rfl
 have ct1:∀ u:KeepP PP,u.val.cell? ⟨H,1,none⟩=some (.int .i64 s):=fun u=>by have:=u.isP;subst hP;exact this.2.1.cell 1 _ rfl
 have ct2:∀ u:KeepP PP,u.val.cell? ⟨H,2,none⟩=some (.int .i64 q):=fun u=>by have:=u.isP;subst hP;exact this.2.1.cell 2 _ rfl
 have ct3:∀ u:KeepP PP,u.val.cell? ⟨H,3,none⟩=some va:=fun u=>by have:=u.isP;subst hP;exact this.2.1.cell 3 _ rfl
 have cn0:∀ u:KeepP PP,u.val.cell? ⟨H + 1,0,none⟩=some (.int .i64 code):=fun u=>by have:=u.isP;subst hP;exact this.2.2.cell 0 _ rfl
 have cn1:∀ u:KeepP PP,u.val.cell? ⟨H + 1,1,none⟩=some (.int .i64 val):=fun u=>by have:=u.isP;subst hP;exact this.2.2.cell 1 _ rfl
 have hne:Nonempty (KeepP PP):=⟨⟨W,hP0⟩⟩
 refine beginX (S:=fun w' => ∃ u:KeepP PP,w' = u.val) (R:=fun _ _=>False) 16 (by kernel_rfl) (fun _ _ _ _ h=>h.elim) ?_
 have hPd:PP W.drew:=by subst hP;exact hPW
 refine sgX [(0,12)] 5 (by kernel_rfl) ⟨⟨W.drew,hPd⟩,rfl⟩ ?_
 simp only [pkE]
 repeat go_big_quiet_step (fail)
 refine wpQuiet_nil ?_
 generalize hz:Array.foldl _ _ _ _ _=cz
 have hz' : cz=#[.int .i64 i,.int .i64 s,.int .i64 q,va,.int .i64 code,.int .i64 val]:=by rw [← hz];rfl
 subst hz'
 clear hz
 clear cc0 ct0 ct1 ct2 ct3 cn0 cn1 hne hP0
 replace B:Blk W.drew rb 149 #[.slice sa m sc,i0,r2,r3]:=B
 replace Bt:Blk W.drew H 158 #[.int .i64 i,.int .i64 s,.int .i64 q,va]:=Bt
 replace Bn:Blk W.drew (H + 1) 251 #[.int .i64 code,.int .i64 val,vu,.slice ia il ic]:=Bn
 replace ho:=ho.drew
 have hU1:Out (rb :: blk (.slice sa m sc)) w W.drew:=hU0.trans (Out.of_below (Below.refl _ _).drew)
 replace hsW:H + 1 < W.drew.heap.size:=hsW
 clear hPd hU0 hb0 hPW
 generalize W.drew=wd at *
 refine onX 12 4 rfl (by kernel_rfl) ?_
 have hbA:Below wd.heap.size wd (wd.alloc (.cells #[.int .i64 i,.int .i64 s,.int .i64 q,va,.int .i64 code,.int .i64 val] 298)):=by go_grown
 go_wp2
 have hsrc:∀ j u,[Value.int .i64 i,.int .i64 s,.int .i64 q,va,.int .i64 code,.int .i64 val][j]? = some u→(wd.alloc (.cells #[.int .i64 i,.int .i64 s,.int .i64 q,va,.int .i64 code,.int .i64 val] 298)).cell? ((⟨wd.heap.size,0,none⟩:Addr).add j)=some u:=by
  intro j u hj;match j,hj with | 0,hj=>simp at hj;subst hj;simp [Addr.add] | 1,hj=>simp at hj;subst hj;simp [Addr.add] | 2,hj=>simp at hj;subst hj;simp [Addr.add] | 3,hj=>simp at hj;subst hj;simp [Addr.add] | 4,hj=>simp at hj;subst hj;simp [Addr.add] | 5,hj=>simp at hj;subst hj;simp [Addr.add]
 replace B:=B.below hbA
 replace Bt:=Bt.below hbA
 replace Bn:=Bn.below hbA
 replace ho:=own_below ho hbA
 replace hU1:=hU1.trans (Out.of_below (F:=rb :: blk (.slice sa m sc)) hbA)
 have hsz:=hbA.size
 refine ThenX.to ⟨Or.inr ⟨⟨_,by subst hP;exact ⟨B,Bt,Bn⟩⟩,rfl⟩,?_⟩
 generalize wd.alloc (.cells #[.int .i64 i,.int .i64 s,.int .i64 q,va,.int .i64 code,.int .i64 val] 298)=wb at *
 refine onX 13 3 rfl (by kernel_rfl) ?_
 refine wpList_append_own_at _ rfl _ _ 142 rfl 0 298 it (.agg #[.int .i64 0,.int .i64 0,.int .i64 0,.slice none 0 0,.int .i64 0,.int .i64 0]) 6 72 Tryz.underlying142 hi hz0 hz1 hz2 rfl (by decide) _ m xs rfl ho ⟨wd.heap.size,0,none⟩ 1 1 [.int .i64 i,.int .i64 s,.int .i64 q,va,.int .i64 code,.int .i64 val] rfl rfl hsrc ?c2 ?c3 ?c4 ?c5 ?_
 case c2=>intro u hu;simp at hu;rcases hu with rfl | rfl | rfl | rfl | rfl | rfl <;> first | rfl | exact hva
 case c3=>unfold maxLen;omega
 case c4=>omega
 case c5=>omega
 intro v' wc hown hgrow _ hat
 obtain ⟨a2,c2,rfl⟩:=own_shape hown
 have hUg:Out (blk (.slice sa m sc)) wb wc:=Out.of_grown hgrow
 have hlow:∀ k∈blk (Value.slice sa m sc),k≠H∧k≠H + 1∧k≠rb:=fun k hk=>⟨(HLO.out k hk).1,(HLO.out k hk).2,fun e=>hrb (e ▸ hk)⟩
 replace B:=B.outs8 hUg (fun hk=>(hlow _ hk).2.2 rfl)
 replace Bt:=Bt.outs8 hUg (fun hk=>(hlow _ hk).1 rfl)
 replace Bn:=Bn.outs8 hUg (fun hk=>(hlow _ hk).2.1 rfl)
 replace hU1:=hU1.trans (hUg.mono (fun k hk=>List.mem_cons_of_mem _ hk))
 go_wp2
 refine ThenX.to ⟨Or.inr ⟨⟨_,by subst hP;exact ⟨B,Bt,Bn⟩⟩,rfl⟩,?_⟩
 have hd1:(Value.slice a2 (m + 1) c2).ownBlock=(Value.slice sa m sc).ownBlock∨∃ g,(Value.slice a2 (m + 1) c2).ownBlock=some g∧H≤g:=by
  rcases hat with h | h
  ·exact Or.inl h
  ·exact Or.inr ⟨_,h,by omega⟩
 have hrn:rb ∉ blk (Value.slice a2 (m + 1) c2):=by
  intro hk
  unfold blk at hk hrb
  rcases hd1 with h | ⟨g,h,hg⟩
  ·rw [h] at hk;exact hrb hk
  ·rw [h] at hk
   simp only [Option.toList,List.mem_singleton] at hk
   omega
 clear hat hgrow hsrc hbA ho hUg
 refine onX 14 2 rfl (by kernel_rfl) ?_
 go_wp2
 refine ThenX.to ⟨Or.inr ⟨⟨_,by subst hP;exact ⟨B,Bt,Bn⟩⟩,rfl⟩,?_⟩
 refine onX 15 1 rfl (by kernel_rfl) ?_
 go_wp2
 refine ThenX.to ⟨Or.inr ⟨⟨_,by subst hP;exact ⟨B,Bt,Bn⟩⟩,rfl⟩,?_⟩
 refine onX 16 0 rfl (by kernel_rfl) ?_
 have k1:=B.cell 0 _ rfl
 have k2:=B.frozen 0
 go_wp2
 clear k1 k2
 refine ThenX.to ⟨Or.inl (by kernel_rfl),?_⟩
 refine endX (by kernel_rfl) ?_
 have B1:Blk (wc.setCell ⟨rb,0,none⟩ (.slice a2 (m + 1) c2)) rb 149 #[.slice a2 (m + 1) c2,i0,r2,r3]:=by
  have:=B.set 0 (.slice a2 (m + 1) c2)
  simpa using this
 have Bn1:=Bn.other (b' := rb) (by omega) 0 (.slice a2 (m + 1) c2)
 have ho1:=own_outs hown (Out.setCell wc rb 0 (.slice a2 (m + 1) c2)) (fun k hk e=>by simp only [List.mem_singleton] at e;subst e;exact hrn hk)
 have hU2:=hU1.trans ((Out.setCell wc rb 0 (.slice a2 (m + 1) c2)).mono (G:=rb :: blk (.slice sa m sc)) (fun k hk=>by simp only [List.mem_singleton] at hk;subst hk;simp))
 generalize wc.setCell ⟨rb,0,none⟩ (.slice a2 (m + 1) c2)=we at *
 clear B Bn Bt hown hU1
 have n0:=Bn1.cell 0 _ rfl
 have n3:=Bn1.cell 3 _ rfl
 by_cases hc:code=0
 ·subst hc
  have k1:=B1.cell 1 _ rfl
  have k2:=B1.frozen 1
  have B2:Blk (we.setCell ⟨rb,1,none⟩ (.slice ia il ic)) rb 149 #[.slice a2 (m + 1) c2,.slice ia il ic,r2,r3]:=by
   have:=B1.set 1 (.slice ia il ic)
   simpa using this
  have ho2:=own_outs ho1 (Out.setCell we rb 1 (.slice ia il ic)) (fun k hk e=>by simp only [List.mem_singleton] at e;subst e;exact hrn hk)
  have hU3:=hU2.trans ((Out.setCell we rb 1 (.slice ia il ic)).mono (G:=rb :: blk (.slice sa m sc)) (fun k hk=>by simp only [List.mem_singleton] at hk;subst hk;simp))
  go_wp2
  go_end0
  exact ⟨rfl,_,B2,ho2,hd1,hU3⟩
 ·have hcb:(code == 0)=false:=by simpa using hc
  go_wp2
  go_end0
  try rw [if_neg hc]
  exact ⟨rfl,_,B1,ho1,hd1,hU2⟩

set_option maxRecDepth 100000 in
set_option maxHeartbeats 4000000 in
theorem addU_any (rb:Nat) (d0 i0:Value) (r0 r1:Value) (m:Nat) (xs:List Value) (i s q:Int) (va:Value) (code val:Int) (vu:Value) (ia:Option Addr) (il ic:Nat) (la:Option Addr) (ln lc:Nat) (w:World) (B:Blk w rb 149 #[r0,r1,d0,i0]) (ho:w.ownsRow 0 258 7 d0 m xs) (hrb:rb ∉ blk d0) (hm:m≤100) (hva:va.oneCell' = true) :
  Calls Tryz.prog 176 #[.pointer (some ⟨rb,2,none⟩),.agg #[.int .i64 i,.int .i64 s,.int .i64 q,va],.agg #[.int .i64 code,.int .i64 val,vu,.slice ia il ic],.slice la ln lc] w fun e w' => e=.returned (.tuple #[])∧∃ d1,Blk w' rb 149 #[r0,r1,d1,(if code=0 then .slice ia il ic else i0)]∧w'.ownsRow 0 258 7 d1 (m + 1) (xs ++ [.int .i64 i,.int .i64 s,.int .i64 q,va,.int .i64 code,.int .i64 val,.slice la ln lc])∧(d1.ownBlock=d0.ownBlock∨∃ g,d1.ownBlock=some g∧w.heap.size≤g)∧Out (rb :: blk d0) w w' := by
 obtain ⟨sa,sc,rfl⟩:=own_shape ho
 obtain ⟨it,hi,hz0,hz1,hz2⟩:=info_parts infoDeedU
 have hrl:=B.lt
 have hlt0:∀ k∈blk (Value.slice sa m sc),k < w.heap.size:=fun k hk=>(ho.lt k (by simpa [blk] using hk)).2
 have hb0:Below w.heap.size w ((w.alloc (.cells #[.int .i64 i,.int .i64 s,.int .i64 q,va] 158)).alloc (.cells #[.int .i64 code,.int .i64 val,vu,.slice ia il ic] 251)):=by go_grown
 have Bt:=(Blk.new w 158 #[.int .i64 i,.int .i64 s,.int .i64 q,va]).below (w' := ((w.alloc (.cells #[.int .i64 i,.int .i64 s,.int .i64 q,va] 158)).alloc (.cells #[.int .i64 code,.int .i64 val,vu,.slice ia il ic] 251))) (by go_grown)
 have Bn:=Blk.new (w.alloc (.cells #[.int .i64 i,.int .i64 s,.int .i64 q,va] 158)) 251 #[.int .i64 code,.int .i64 val,vu,.slice ia il ic]
 simp only [World.size_alloc] at Bn
 have hsW:w.heap.size + 1 < ((w.alloc (.cells #[.int .i64 i,.int .i64 s,.int .i64 q,va] 158)).alloc (.cells #[.int .i64 code,.int .i64 val,vu,.slice ia il ic] 251)).heap.size:=by simp only [World.size_alloc];omega
 replace B:=B.below hb0
 replace ho:=own_below ho hb0
 have hU0:Out (rb :: blk (.slice sa m sc)) w ((w.alloc (.cells #[.int .i64 i,.int .i64 s,.int .i64 q,va] 158)).alloc (.cells #[.int .i64 code,.int .i64 val,vu,.slice ia il ic] 251)):=Out.of_below hb0
 have HLO:Hid (∀ k∈blk (Value.slice sa m sc),k≠w.heap.size∧k≠w.heap.size + 1):=fun k hk=>by
  have:=hlt0 k hk
  exact ⟨by omega,by omega⟩
 go_enter Tryz.func176,Tryz.ntmps176
 go_wp2_with fail
 generalize ((w.alloc (.cells #[.int .i64 i,.int .i64 s,.int .i64 q,va] 158)).alloc (.cells #[.int .i64 code,.int .i64 val,vu,.slice ia il ic] 251))=W at *
 generalize hH:w.heap.size=H at *
 have hPW:Blk W rb 149 #[r0,r1,.slice sa m sc,i0]∧Blk W H 158 #[.int .i64 i,.int .i64 s,.int .i64 q,va]∧Blk W (H + 1) 251 #[.int .i64 code,.int .i64 val,vu,.slice ia il ic]:=⟨B,Bt,Bn⟩
 generalize hP:(fun u:World=>Blk u rb 149 #[r0,r1,.slice sa m sc,i0]∧Blk u H 158 #[.int .i64 i,.int .i64 s,.int .i64 q,va]∧Blk u (H + 1) 251 #[.int .i64 code,.int .i64 val,vu,.slice ia il ic])=PP
 have hP0:PP W:=by subst hP;exact hPW
 have cc0:∀ u:KeepP PP,u.val.cell? ⟨rb,2,none⟩=some (.slice sa m sc):=fun u=>by have:=u.isP;subst hP;exact this.1.cell 2 _ rfl
 have ct0:∀ u:KeepP PP,u.val.cell? ⟨H,0,none⟩=some (.int .i64 i):=fun u=>by have:=u.isP;subst hP;exact this.2.1.cell 0 _ rfl
 have ct1:∀ u:KeepP PP,u.val.cell? ⟨H,1,none⟩=some (.int .i64 s):=fun u=>by have:=u.isP;subst hP;exact this.2.1.cell 1 _ rfl
 have ct2:∀ u:KeepP PP,u.val.cell? ⟨H,2,none⟩=some (.int .i64 q):=fun u=>by have:=u.isP;subst hP;exact this.2.1.cell 2 _ rfl
 have ct3:∀ u:KeepP PP,u.val.cell? ⟨H,3,none⟩=some va:=fun u=>by have:=u.isP;subst hP;exact this.2.1.cell 3 _ rfl
 have cn0:∀ u:KeepP PP,u.val.cell? ⟨H + 1,0,none⟩=some (.int .i64 code):=fun u=>by have:=u.isP;subst hP;exact this.2.2.cell 0 _ rfl
 have cn1:∀ u:KeepP PP,u.val.cell? ⟨H + 1,1,none⟩=some (.int .i64 val):=fun u=>by have:=u.isP;subst hP;exact this.2.2.cell 1 _ rfl
 have hne:Nonempty (KeepP PP):=⟨⟨W,hP0⟩⟩
 refine beginX (S:=fun w' => ∃ u:KeepP PP,w' = u.val) (R:=fun _ _=>False) 16 (by kernel_rfl) (fun _ _ _ _ h=>h.elim) ?_
 have hPd:PP W.drew:=by subst hP;exact hPW
 refine sgX [(0,12)] 5 (by kernel_rfl) ⟨⟨W.drew,hPd⟩,rfl⟩ ?_
 simp only [pkE]
 repeat go_big_quiet_step (fail)
 refine wpQuiet_nil ?_
 clear cc0 ct0 ct1 ct2 ct3 cn0 cn1 hne hP0
 replace B:Blk W.drew rb 149 #[r0,r1,.slice sa m sc,i0]:=B
 replace Bt:Blk W.drew H 158 #[.int .i64 i,.int .i64 s,.int .i64 q,va]:=Bt
 replace Bn:Blk W.drew (H + 1) 251 #[.int .i64 code,.int .i64 val,vu,.slice ia il ic]:=Bn
 replace ho:=ho.drew
 have hU1:Out (rb :: blk (.slice sa m sc)) w W.drew:=hU0.trans (Out.of_below (Below.refl _ _).drew)
 replace hsW:H + 1 < W.drew.heap.size:=hsW
 clear hPd hU0 hb0 hPW
 generalize W.drew=wd at *
 refine onX 12 4 rfl (by kernel_rfl) ?_
 have hbA:Below wd.heap.size wd (wd.alloc (.cells #[.int .i64 i,.int .i64 s,.int .i64 q,va,.int .i64 code,.int .i64 val,.slice la ln lc] 258)):=by go_grown
 go_wp2
 have hsrc:∀ j u,[Value.int .i64 i,.int .i64 s,.int .i64 q,va,.int .i64 code,.int .i64 val,.slice la ln lc][j]? = some u→(wd.alloc (.cells #[.int .i64 i,.int .i64 s,.int .i64 q,va,.int .i64 code,.int .i64 val,.slice la ln lc] 258)).cell? ((⟨wd.heap.size,0,none⟩:Addr).add j)=some u:=by
  intro j u hj;match j,hj with | 0,hj=>simp at hj;subst hj;simp [Addr.add] | 1,hj=>simp at hj;subst hj;simp [Addr.add] | 2,hj=>simp at hj;subst hj;simp [Addr.add] | 3,hj=>simp at hj;subst hj;simp [Addr.add] | 4,hj=>simp at hj;subst hj;simp [Addr.add] | 5,hj=>simp at hj;subst hj;simp [Addr.add] | 6,hj=>simp at hj;subst hj;simp [Addr.add]
 replace B:=B.below hbA
 replace Bt:=Bt.below hbA
 replace Bn:=Bn.below hbA
 replace ho:=own_below ho hbA
 replace hU1:=hU1.trans (Out.of_below (F:=rb :: blk (.slice sa m sc)) hbA)
 have hsz:=hbA.size
 refine ThenX.to ⟨Or.inr ⟨⟨_,by subst hP;exact ⟨B,Bt,Bn⟩⟩,rfl⟩,?_⟩
 generalize wd.alloc (.cells #[.int .i64 i,.int .i64 s,.int .i64 q,va,.int .i64 code,.int .i64 val,.slice la ln lc] 258)=wb at *
 refine onX 13 3 rfl (by kernel_rfl) ?_
 refine wpList_append_own_at _ rfl _ _ 145 rfl 0 258 it (.agg #[.int .i64 0,.int .i64 0,.int .i64 0,.slice none 0 0,.int .i64 0,.int .i64 0,.slice none 0 0]) 7 88 Tryz.underlying145 hi hz0 hz1 hz2 rfl (by decide) _ m xs rfl ho ⟨wd.heap.size,0,none⟩ 1 1 [.int .i64 i,.int .i64 s,.int .i64 q,va,.int .i64 code,.int .i64 val,.slice la ln lc] rfl rfl hsrc ?c2 ?c3 ?c4 ?c5 ?_
 case c2=>intro u hu;simp at hu;rcases hu with rfl | rfl | rfl | rfl | rfl | rfl | rfl <;> first | rfl | exact hva
 case c3=>unfold maxLen;omega
 case c4=>omega
 case c5=>omega
 intro v' wc hown hgrow _ hat
 obtain ⟨a2,c2,rfl⟩:=own_shape hown
 have hUg:Out (blk (.slice sa m sc)) wb wc:=Out.of_grown hgrow
 have hlow:∀ k∈blk (Value.slice sa m sc),k≠H∧k≠H + 1∧k≠rb:=fun k hk=>⟨(HLO.out k hk).1,(HLO.out k hk).2,fun e=>hrb (e ▸ hk)⟩
 replace B:=B.outs8 hUg (fun hk=>(hlow _ hk).2.2 rfl)
 replace Bt:=Bt.outs8 hUg (fun hk=>(hlow _ hk).1 rfl)
 replace Bn:=Bn.outs8 hUg (fun hk=>(hlow _ hk).2.1 rfl)
 replace hU1:=hU1.trans (hUg.mono (fun k hk=>List.mem_cons_of_mem _ hk))
 go_wp2
 refine ThenX.to ⟨Or.inr ⟨⟨_,by subst hP;exact ⟨B,Bt,Bn⟩⟩,rfl⟩,?_⟩
 have hd1:(Value.slice a2 (m + 1) c2).ownBlock=(Value.slice sa m sc).ownBlock∨∃ g,(Value.slice a2 (m + 1) c2).ownBlock=some g∧H≤g:=by
  rcases hat with h | h
  ·exact Or.inl h
  ·exact Or.inr ⟨_,h,by omega⟩
 have hrn:rb ∉ blk (Value.slice a2 (m + 1) c2):=by
  intro hk
  unfold blk at hk hrb
  rcases hd1 with h | ⟨g,h,hg⟩
  ·rw [h] at hk;exact hrb hk
  ·rw [h] at hk
   simp only [Option.toList,List.mem_singleton] at hk
   omega
 clear hat hgrow hsrc hbA ho hUg
 refine onX 14 2 rfl (by kernel_rfl) ?_
 go_wp2
 refine ThenX.to ⟨Or.inr ⟨⟨_,by subst hP;exact ⟨B,Bt,Bn⟩⟩,rfl⟩,?_⟩
 refine onX 15 1 rfl (by kernel_rfl) ?_
 go_wp2
 refine ThenX.to ⟨Or.inr ⟨⟨_,by subst hP;exact ⟨B,Bt,Bn⟩⟩,rfl⟩,?_⟩
 refine onX 16 0 rfl (by kernel_rfl) ?_
 have k1:=B.cell 2 _ rfl
 have k2:=B.frozen 2
 go_wp2
 clear k1 k2
 refine ThenX.to ⟨Or.inl (by kernel_rfl),?_⟩
 refine endX (by kernel_rfl) ?_
 have B1:Blk (wc.setCell ⟨rb,2,none⟩ (.slice a2 (m + 1) c2)) rb 149 #[r0,r1,.slice a2 (m + 1) c2,i0]:=by
  have:=B.set 2 (.slice a2 (m + 1) c2)
  simpa using this
 have Bn1:=Bn.other (b' := rb) (by omega) 2 (.slice a2 (m + 1) c2)
 have ho1:=own_outs hown (Out.setCell wc rb 2 (.slice a2 (m + 1) c2)) (fun k hk e=>by simp only [List.mem_singleton] at e;subst e;exact hrn hk)
 have hU2:=hU1.trans ((Out.setCell wc rb 2 (.slice a2 (m + 1) c2)).mono (G:=rb :: blk (.slice sa m sc)) (fun k hk=>by simp only [List.mem_singleton] at hk;subst hk;simp))
 generalize wc.setCell ⟨rb,2,none⟩ (.slice a2 (m + 1) c2)=we at *
 clear B Bn Bt hown hU1
 have n0:=Bn1.cell 0 _ rfl
 have n3:=Bn1.cell 3 _ rfl
 by_cases hc:code=0
 ·subst hc
  have k1:=B1.cell 3 _ rfl
  have k2:=B1.frozen 3
  have B2:Blk (we.setCell ⟨rb,3,none⟩ (.slice ia il ic)) rb 149 #[r0,r1,.slice a2 (m + 1) c2,.slice ia il ic]:=by
   have:=B1.set 3 (.slice ia il ic)
   simpa using this
  have ho2:=own_outs ho1 (Out.setCell we rb 3 (.slice ia il ic)) (fun k hk e=>by simp only [List.mem_singleton] at e;subst e;exact hrn hk)
  have hU3:=hU2.trans ((Out.setCell we rb 3 (.slice ia il ic)).mono (G:=rb :: blk (.slice sa m sc)) (fun k hk=>by simp only [List.mem_singleton] at hk;subst hk;simp))
  go_wp2
  go_end0
  exact ⟨rfl,_,B2,ho2,hd1,hU3⟩
 ·have hcb:(code == 0)=false:=by simpa using hc
  go_wp2
  go_end0
  try rw [if_neg hc]
  exact ⟨rfl,_,B1,ho1,hd1,hU2⟩

end Go.Proofs.YtjjoahhnkpjolaaGreatDoor
namespace Go.Proofs.YtjjoahhnkpjolaaGreatDoor
open Go.RowKit
set_option maxRecDepth 100000
/-- What undoes an act. -/
def unA (xs:List ItemD) (a:ActD):UndoD:=⟨a.key,hasI xs a.key,valI xs a.key⟩

/-- What undoes acts that are done one by one. -/
def unR:List ItemD→List ActD→List UndoD
 | _,[]=>[]
 | xs,a :: r=>(if a.kind=4 then [] else [unA xs a]) ++ unR (actN xs a) r

def duU (xs:List ItemD) (i s q:Int) (zs:List ActD):List UndoD:=if exC xs i s q zs=0 then unR xs zs else []

theorem hasI_mem {xs:List ItemD} {k:Int}:hasI xs k=true↔∃ y∈xs,y.key=k:=by simp [hasI]

theorem valI_none {xs:List ItemD} {k:Int} (h:hasI xs k=false):valI xs k=0:=by
 unfold valI
 have:xs.find? (fun x=>x.key == k)=none:=by
  rw [List.find?_eq_none]
  intro y hy
  simp
  intro e
  rw [hasI_mem.2 ⟨y,hy,e⟩] at h
  simp at h
 rw [this]

theorem unR_parts:∀ {zs:List ActD} {xs:List ItemD},xs.length≤8→Good xs→(∀ a∈zs,actF a=0)→(runA xs zs).1=0→(unR xs zs).length≤zs.length∧∀ u∈unR xs zs,unF1 u=0
 | [],xs,_,_,_,_=>by simp [unR]
 | a :: r,xs,hl,g,ha,h=>by
  simp only [runA,unR] at h ⊢
  by_cases e:actC xs a=0
  ·rw [if_pos e] at h
   obtain ⟨h1,h2⟩:=act_good hl g (ha a (by simp)) e
   obtain ⟨i1,i2⟩:=unR_parts h1 h2 (fun b hb=>ha b (by simp [hb])) h
   have hone:unF1 (unA xs a)=0:=by
    obtain ⟨_,hy,_⟩:=actF_zero (ha a (by simp))
    have hv:=g.valI a.key
    have k1:inW a.key 1 20=true:=by simp [inW];omega
    have k2:inW (valI xs a.key) (-20000) 20000=true:=by simp [inW];omega
    unfold unF1 unA
    dsimp only
    rw [k1,k2]
    cases hh:hasI xs a.key
    ·simp [valI_none hh]
    ·simp
   constructor
   ·rw [List.length_append,List.length_cons]
    split <;> simp <;> omega
   ·intro u hu
    rcases List.mem_append.1 hu with hu | hu
    ·split at hu
     ·simp at hu
     ·simp at hu;rw [hu];exact hone
    ·exact i2 u hu
  ·rw [if_neg e] at h
   exact absurd h e

end Go.Proofs.YtjjoahhnkpjolaaGreatDoor
namespace Go.Proofs.YtjjoahhnkpjolaaGreatDoor
open Go.RowKit Go.Maps Go.Sort Go.Shelf
set_option maxRecDepth 100000
theorem ShelfAt.under {w w' : World} {B b:Nat} {xs:List ItemD} (h:ShelfAt w b xs) (hb:Below B w w') (hlt:b < B):ShelfAt w' b xs:=by
 obtain ⟨es,clock,hh,r⟩:=h
 exact ⟨es,clock,(hb.block b hlt).trans hh,r⟩

theorem only_cell {w w' : World} {lo hi b j:Nat} {v:Value} (h:w.cell? ⟨b,j,none⟩=some v) (ho:Only lo hi w w') (hb:b < lo∨hi≤b):w'.cell? ⟨b,j,none⟩=some v:=by
 have hlt:=World.block_lt_of_cell? w _ h
 have e:=ho.block b hlt hb
 simp only [World.cell?] at h ⊢
 rw [e]
 exact h

theorem undoCells_snoc (xs:List UndoD) (z:UndoD):undoCells (xs ++ [z])=undoCells xs ++ [.int .i64 z.key,.bool z.was,.int .i64 z.val]:=by simp [undoCells,UndoD.cells]

theorem unR_cons (xs:List ItemD) (a:ActD) (r:List ActD):unR xs (a :: r)=(if a.kind=4 then [] else [unA xs a]) ++ unR (actN xs a) r:=rfl

set_option maxRecDepth 100000 in
set_option maxHeartbeats 2000000 in
theorem undosOf_any (sb:Nat) (xs:List ItemD) (ta:Option Addr) (tc:Nat) (zs:List ActD) (w:World) (h:ShelfAt w sb xs) (h8:xs.length≤8) (g:Good xs) (ht:ActRow w ta zs) (hap:∀ b off,ta=some ⟨b,off,none⟩→b≠sb) (hz4:zs.length≤4) (hact:∀ a∈zs,actF a=0) (hrun:(runA xs zs).1=0) :
  Calls Tryz.prog 213 #[.map (some sb),.slice ta zs.length tc] w fun e w' => ∃ b c,e=.returned (.slice b (unR xs zs).length c) ∧
   w'.ownsRow w.heap.size 223 3 (.slice b (unR xs zs).length c) (unR xs zs).length (undoCells (unR xs zs))∧Only sb (sb + 1) w w' := by
 obtain ⟨i0,hi,hz0,hz1,hz2⟩:=info_parts infoUndo
 have hsb:=h.lt
 have HA:Hid (∀ a∈zs,actF a=0):=hact
 have HR0:Hid ((runA xs zs).1=0):=hrun
 clear hact hrun
 go_enter Tryz.func213,Tryz.ntmps213
 go_wp2
 go_loopw [5,12] (fun v j wr=>∃ (k:Nat) (cur:List ItemD) (D:List UndoD),k≤zs.length∧j=.int .i64 k∧ShelfAt wr sb cur∧cur.length≤8∧D.length≤k∧Hid (Good cur∧(runA cur (zs.drop k)).1=0∧unR xs zs=D ++ unR cur (zs.drop k))∧wr.ownsRow w.heap.size 223 3 v D.length (undoCells D)∧Only sb (sb + 1) w wr) (fun _ j _=>zs.length - (intOf j).toNat)
 case atStart=>exact ⟨0,xs,[],Nat.zero_le _,rfl,h,h8,Nat.zero_le _,⟨g,by simpa using HR0.out,by simp⟩,World.ownsRow_nil _ _ _ _,Only.refl _ _ _⟩
 case round=>
  obtain ⟨k,cur,D,hk,rfl,hS,hc8,hD,HG,ho,hO⟩:=hrel
  obtain ⟨a1,c1,rfl⟩:=own_shape ho
  have hsz:w.heap.size≤wr.heap.size:=hO.size
  by_cases hlt:k < zs.length
  ·obtain ⟨b,off,rfl,hbs,hc0,hc1,hc2⟩:=ht.at k hlt
   have hne:=hap b off rfl
   replace hc0:=only_cell hc0 hO (by omega)
   replace hc1:=only_cell hc1 hO (by omega)
   replace hc2:=only_cell hc2 hO (by omega)
   have haz:=HA.out (zs.getD k actNo) (by simp [List.getD,hlt])
   obtain ⟨_,hy20,_⟩:=actF_zero haz
   have hrun:=HG.out.2.1
   have hun:=HG.out.2.2
   rw [drop_act hlt,runA_cons] at hrun
   rw [drop_act hlt,unR_cons] at hun
   have hF:actC cur (zs.getD k actNo)=0:=by
    by_cases hF:actC cur (zs.getD k actNo)=0
    ·exact hF
    ·rw [if_neg hF] at hrun;exact absurd hrun hF
   rw [if_pos hF] at hrun
   obtain ⟨hn8,hng⟩:=act_good hc8 HG.out.1 haz hF
   have hdo:=fun w h=>do_any sb cur (zs.getD k actNo).kind (zs.getD k actNo).key (zs.getD k actNo).val w h hc8 HG.out.1 haz
   change ∀ w h,Calls _ _ _ _ fun e w' => e=.returned (.int .i64 (actC cur (zs.getD k actNo)))∧(actC cur (zs.getD k actNo)=0→ShelfAt w' sb (actN cur (zs.getD k actNo)))∧_ at hdo
   rw [hF] at hdo
   have HN:Hid (Good (actN cur (zs.getD k actNo))∧(runA (actN cur (zs.getD k actNo)) (zs.drop (k + 1))).1=0):=⟨hng,hrun⟩
   have HU:Hid (unR xs zs=D ++ ((if (zs.getD k actNo).kind=4 then [] else [unA cur (zs.getD k actNo)]) ++ unR (actN cur (zs.getD k actNo)) (zs.drop (k + 1)))):=hun
   clear hrun hun hng haz HG hF
   generalize actN cur (zs.getD k actNo)=nx at hdo HN HU hn8
   generalize zs.getD k actNo=z at hc0 hc1 hc2 hdo HU hy20
   obtain ⟨z0,z1,z2⟩:=z
   dsimp only at hc0 hc1 hc2 hdo HU hy20
   have hS1:ShelfAt (wr.alloc (.cells #[.int .i64 z0,.int .i64 z1,.int .i64 z2] 210)) sb cur:=hS.below (by go_grown)
   have hB1:Below wr.heap.size wr (wr.alloc (.cells #[.int .i64 z0,.int .i64 z1,.int .i64 z2] 210)):=by go_grown
   have Bz:=Blk.new wr 210 #[.int .i64 z0,.int .i64 z1,.int .i64 z2]
   by_cases h4:z0=4
   ·subst h4
    have HU' : Hid (unR xs zs=D ++ unR nx (zs.drop (k + 1))):=by
     show _=_
     simpa using HU.out
    have hn4:((4:Int) != 4)=false:=by decide
    go_wp2_with fail
    refine (hdo _ hS1).mono ?_
    rintro e w3 ⟨rfl,hS3,hO3⟩
    have RR:Hid (_∧_∧_):=⟨hS3 trivial,own_only (own_below ho hB1) hO3 hsb,(hO.trans (Only.of_below hB1)).trans hO3⟩
    clear hS3 ho hO hO3 hdo hS hS1 hB1 Bz hc0 hc1 hc2
    go_wp2
    go_roundw
    case rel=>exact ⟨k + 1,nx,D,by omega,by go_num,RR.out.1,hn8,by omega,⟨HN.out.1,HN.out.2,HU'.out⟩,RR.out.2.1,RR.out.2.2⟩
    case measure=>simp [intOf];omega
   ·have HU' : Hid (unR xs zs=(D ++ [⟨z1,hasI cur z1,valI cur z1⟩]) ++ unR nx (zs.drop (k + 1))):=by
     have:=HU.out
     rw [if_neg h4] at this
     show _=_
     simpa [unA] using this
    have hn4:(z0 != 4)=true:=by simpa using h4
    have hlook:∀ (w:World) (_:ShelfAt w sb cur) (ops:Array Oper) (rest:List Oper) (o:Oper) (a:Act) (Q:Exit→Act→World→Prop) (hg:o.guard=none) (m x:Operand) (hop:o.op=Op.lookup 301 m x true) (hm:a.eval m=.map (some sb)) (hx:a.eval x=.int .i64 z1) (hK:wpList Tryz.prog ops Q rest (a.put o.dst (.tuple #[.int .i64 (valI cur z1),.bool (hasI cur z1)])) w),wpList Tryz.prog ops Q (o :: rest) a w:=
     fun w h ops rest o a Q hg m x hop hm hx hK=>wpList_shelf_ok w hg m x hop sb cur hm h z1 hx (by omega) hK
    clear h4 HU
    generalize valI cur z1=c at hlook HU'
    generalize hasI cur z1=t at hlook HU'
    have ho2:((wr.alloc (.cells #[.int .i64 z0,.int .i64 z1,.int .i64 z2] 210)).alloc (.cells #[.int .i64 z1,.bool t,.int .i64 c] 223)).ownsRow w.heap.size 223 3 (.slice a1 D.length c1) D.length (undoCells D):=own_below (own_below ho hB1) (by go_grown)
    have hB2:Below wr.heap.size wr ((wr.alloc (.cells #[.int .i64 z0,.int .i64 z1,.int .i64 z2] 210)).alloc (.cells #[.int .i64 z1,.bool t,.int .i64 c] 223)):=by go_grown
    have Bz2:=Bz.below (w' := (wr.alloc (.cells #[.int .i64 z0,.int .i64 z1,.int .i64 z2] 210)).alloc (.cells #[.int .i64 z1,.bool t,.int .i64 c] 223)) (by go_grown)
    have hnz:=own_not3 ho (b:=wr.heap.size) (Or.inr (Nat.le_refl _))
    go_wp2_with (first | (at_lookup;refine hlook _ hS1 _ _ _ _ _ rfl _ _ rfl rfl rfl ?_) | (at_builtin;refine wpList_append_own _ rfl _ _ 175 rfl w.heap.size 223 i0 (.agg #[.int .i64 0,.bool false,.int .i64 0]) 3 24 Tryz.underlying175 hi hz0 hz1 hz2 rfl (by decide) _ D.length (undoCells D) rfl ho2 ⟨wr.heap.size + 1,0,none⟩ 1 1 [.int .i64 z1,.bool t,.int .i64 c] rfl rfl ?c1 ?c2 ?c3 ?c4 ?c5 ?_))
    all_goals try (case c1=>intro j u hj;match j,hj with | 0,hj=>simp at hj;subst hj;simp [Addr.add] | 1,hj=>simp at hj;subst hj;simp [Addr.add] | 2,hj=>simp at hj;subst hj;simp [Addr.add])
    all_goals try (case c2=>first | rfl | exact ⟨rfl,rfl,rfl⟩ | (intro u hu;simp at hu;rcases hu with rfl | rfl | rfl <;> rfl))
    all_goals try (case c3=>unfold maxLen;omega)
    all_goals try (case c4=>omega)
    all_goals try (case c5=>first | omega | (simp;omega))
    intro v' w3 hown hgrow _
    obtain ⟨a2,c2,rfl⟩:=own_shape hown
    have hW3:Below w.heap.size wr w3:=(hB2.mono hsz).grown hgrow (by simp;omega) (fun j hj=>(ho.lt j hj).1)
    have hO3:Only sb (sb + 1) w w3:=⟨hW3.os.trans hO.os,hW3.tape.trans hO.tape,hW3.output.trans hO.output,Nat.le_trans hO.size hW3.size,fun j hj hc=>(hW3.block j hj).trans (hO.block j hj hc)⟩
    have hS3:=hS.under hW3 hsb
    have Bz3:=Bz2.grown hgrow hnz
    obtain ⟨q0,q1,q2⟩:=Bz3.cel3
    clear hgrow ho2 hB2 Bz2 hS1 hB1 Bz hc0 hc1 hc2 hO ho hS Bz3 hW3 hlook
    go_wp2_with fail
    refine (hdo _ hS3).mono ?_
    rintro e w4 ⟨rfl,hS4,hO4⟩
    have RR:Hid (_∧_∧_):=⟨hS4 trivial,own_only hown hO4 hsb,hO3.trans hO4⟩
    clear hS4 hown hO4 hO3 hdo q0 q1 q2 hS3
    go_wp2
    go_roundw
    case rel=>
     refine ⟨k + 1,nx,D ++ [⟨z1,t,c⟩],by omega,by go_num,RR.out.1,hn8,by simp;omega,⟨HN.out.1,HN.out.2,HU'.out⟩,?_,RR.out.2.2⟩
     rw [undoCells_snoc]
     simpa using RR.out.2.1
    case measure=>simp [intOf];omega
  ·have hkl:k=zs.length:=by omega
   subst hkl
   have e:unR xs zs=D:=by
    have:=HG.out.2.2
    rw [List.drop_length] at this
    simpa [unR] using this
   go_wp2
   go_ret
   rw [e]
   exact ⟨_,_,rfl,ho,hO⟩

end Go.Proofs.YtjjoahhnkpjolaaGreatDoor
namespace Go.Proofs.YtjjoahhnkpjolaaGreatDoor
open Go.RowKit Go.Maps Go.Sort Go.Shelf
open Go.BigFrame
set_option maxRecDepth 100000
theorem ex_zero {xs:List ItemD} {i s q:Int} {zs:List ActD} (h:exC xs i s q zs=0):itemsF xs=0∧txnF i s q zs=0∧(runA xs zs).1=0:=by
 by_cases h1:itemsF xs=0
 ·by_cases h2:txnF i s q zs=0
  ·refine ⟨h1,h2,?_⟩
   simpa [exC,h1,h2] using h
  ·simp [exC,h1,h2] at h
 ·simp [exC,h1] at h

theorem ex_not {xs:List ItemD} {i s q:Int} {zs:List ActD} (h:exC xs i s q zs≠0):exV xs i s q zs=0∧exR xs i s q zs=[]∧duU xs i s q zs=[]:=by
 simp [exV,exR,duU,h]

set_option maxRecDepth 100000 in
set_option maxHeartbeats 4000000 in
theorem implDoUndo_any (a:Option Addr) (cap:Nat) (xs:List ItemD) (i s q:Int) (ta:Option Addr) (tc:Nat) (zs:List ActD) (w:World) (h:ItemRow w a xs) (ht:ActRow w ta zs) (hl:xs.length≤1048576) (hl2:zs.length≤1048576) :
  Calls Tryz.prog 175 #[.slice a xs.length cap,.agg #[.int .i64 i,.int .i64 s,.int .i64 q,.slice ta zs.length tc]] w fun e w' => ∃ b c b2 c2,e=.returned (.agg #[.int .i64 (exC xs i s q zs),.int .i64 (exV xs i s q zs),.slice b (duU xs i s q zs).length c,.slice b2 (exR xs i s q zs).length c2]) ∧
   OwnU w.heap.size w'.heap.size w' (.slice b (duU xs i s q zs).length c) (.slice b2 (exR xs i s q zs).length c2) (duU xs i s q zs) (exR xs i s q zs)∧Below w.heap.size w w' := by
 have hE:=fun w h ht=>implExecTxn_any a cap xs i s q ta tc zs w h ht hl hl2
 have hb0:Below w.heap.size w ((w.alloc (.cells #[.int .i64 i,.int .i64 s,.int .i64 q,.slice ta zs.length tc] 158)).alloc (.cells #[.int .i64 0,.int .i64 0,.slice none 0 0,.slice none 0 0] 251)):=by go_grown
 have Bt:=(Blk.new w 158 #[.int .i64 i,.int .i64 s,.int .i64 q,.slice ta zs.length tc]).below (w' := (w.alloc (.cells #[.int .i64 i,.int .i64 s,.int .i64 q,.slice ta zs.length tc] 158)).alloc (.cells #[.int .i64 0,.int .i64 0,.slice none 0 0,.slice none 0 0] 251)) (by go_grown)
 have Br:=Blk.new (w.alloc (.cells #[.int .i64 i,.int .i64 s,.int .i64 q,.slice ta zs.length tc] 158)) 251 #[.int .i64 0,.int .i64 0,.slice none 0 0,.slice none 0 0]
 rw [World.size_alloc] at Br
 by_cases h0:exC xs i s q zs=0
 case neg=>
  obtain ⟨e1,e2,e3⟩:=ex_not h0
  have hne:(exC xs i s q zs != 0)=true:=by simpa using h0
  rw [e1,e2,e3]
  rw [e1,e2] at hE
  clear e1 e2 e3 h0
  generalize exC xs i s q zs=r at hE hne
  go_enter Tryz.func175,Tryz.ntmps175
  obtain ⟨p0,p1,p2,p3⟩:=Bt.cel4
  go_wp2_with fail
  clear p0 p1 p2 p3
  have hs0:=Br.lt
  have hge0:=hb0.size
  generalize (w.alloc (.cells #[.int .i64 i,.int .i64 s,.int .i64 q,.slice ta zs.length tc] 158)).alloc (.cells #[.int .i64 0,.int .i64 0,.slice none 0 0,.slice none 0 0] 251)=W0 at hb0 Bt Br hs0 hge0
  refine (hE _ (h.below hb0) (ht.below hb0)).mono ?_
  rintro e w1 ⟨ib,ic,rfl,o1,hb⟩
  replace Bt:=Bt.below hb
  replace Br:=Br.below hb
  replace hb0:=hb0.trans (hb.mono hb0.size)
  have hs1:=hb.size
  clear hb
  have hb:Below w1.heap.size w1 (w1.alloc (.cells #[.int .i64 r,.int .i64 0,.slice ib 0 ic] 282)):=by go_grown
  replace Br:=Br.below hb
  replace hb0:=hb0.trans (hb.mono hb0.size)
  obtain ⟨p0,p1,p2,p3⟩:=Br.cel4
  obtain ⟨f0,f1,f2,f3⟩:=Br.frz4
  clear hb
  go_wp2
  refine bodyPost_ret (v:=.agg #[.int .i64 r,.int .i64 0,.slice none 0 0,.slice none 0 0]) (by simp [results,Tryz.results175,go_sem,p0,p1,p2,p3]) rfl ⟨_,_,_,_,rfl,⟨OwnS.of (World.ownsRow_nil _ _ _ _),OwnS.of (World.ownsRow_nil _ _ _ _),Or.inl rfl⟩,?_⟩
  repeat' (refine Below.setCell ?_ (by dsimp only;omega) _)
  exact hb0
 case pos=>
  obtain ⟨z1,z2,z3⟩:=ex_zero h0
  obtain ⟨h8,g⟩:=good_of_F z1
  obtain ⟨⟨hz1,hz4⟩,hact⟩:=acts_of_F z2
  have hsh:=fun w h=>shelfOf_any a cap xs w h h8 g
  have hdu:duU xs i s q zs=unR xs zs:=by simp [duU,h0]
  have hta:∃ b off,ta=some ⟨b,off,none⟩∧b < w.heap.size:=by
   obtain ⟨b,off,e,hlt,_⟩:=ht.at 0 (by omega)
   exact ⟨b,off,e,hlt⟩
  have hun:=fun sb w hS ht hap=>undosOf_any sb xs ta tc zs w hS h8 g ht hap hz4 hact z3
  rw [hdu,h0]
  rw [h0] at hE
  clear hact z1 z2 z3 hdu h0 g
  generalize exV xs i s q zs=V at hE ⊢
  generalize exR xs i s q zs=R at hE ⊢
  generalize unR xs zs=U at hun ⊢
  go_enter Tryz.func175,Tryz.ntmps175
  obtain ⟨p0,p1,p2,p3⟩:=Bt.cel4
  go_wp2_with fail
  clear p0 p1 p2 p3
  have hs0:=Br.lt
  have hge0:=hb0.size
  generalize (w.alloc (.cells #[.int .i64 i,.int .i64 s,.int .i64 q,.slice ta zs.length tc] 158)).alloc (.cells #[.int .i64 0,.int .i64 0,.slice none 0 0,.slice none 0 0] 251)=W0 at hb0 Bt Br hs0 hge0
  refine (hE _ (h.below hb0) (ht.below hb0)).mono ?_
  rintro e w1 ⟨ib,ic,rfl,o1,hb⟩
  replace Bt:=Bt.below hb
  replace Br:=Br.below hb
  replace hb0:=hb0.trans (hb.mono hb0.size)
  have hs1:=hb.size
  clear hb
  have hb:Below w1.heap.size w1 (w1.alloc (.cells #[.int .i64 0,.int .i64 V,.slice ib R.length ic] 282)):=by go_grown
  have Bd:=Blk.new w1 282 #[.int .i64 0,.int .i64 V,.slice ib R.length ic]
  replace Br:=Br.below hb
  replace Bt:=Bt.below hb
  replace o1:=own_below o1 hb
  replace hb0:=hb0.trans (hb.mono hb0.size)
  have hs2:=hb.size
  clear hb
  go_wp2_with fail
  generalize w1.alloc (.cells #[.int .i64 0,.int .i64 V,.slice ib R.length ic] 282)=W2 at hb0 Bt Br Bd o1 hs2
  have hs3:=hb0.size
  have hW:Below W2.heap.size W2 W2.drew:=(Below.refl _ _).drew
  have hne:Nonempty (Lat W2):=⟨⟨W2,Below.refl _ _⟩⟩
  have k1:=Bd.lat 1 _ rfl
  have k2:=Bd.lat 2 _ rfl
  have k3:=Bt.lat 3 _ rfl
  refine beginX (S:=fun w' => ∃ u:Lat W2,w' = u.val) (R:=fun _ _=>False) 10 (by kernel_rfl) (fun _ _ _ _ h=>h.elim) ?_
  refine sgX [(0,3),(4,2),(7,2)] 4 (by kernel_rfl) ⟨⟨_,hW⟩,rfl⟩ ?_
  simp only [pkE]
  repeat go_big_quiet_step (fail)
  refine wpQuiet_nil ?_
  refine clX 3 (some 18) 212 #[.slice a xs.length cap] 3 (by kernel_rfl) rfl ?_
  refine (hsh _ (h.below (hb0.trans (hW.mono hb0.size)))).mono ?_
  rintro e w3 ⟨rfl,hS,hb⟩
  have hwz:=hW.size
  replace hW:=hW.trans (hb.mono hW.size)
  have hsz3:=hb.size
  clear hb
  refine Or.inl ⟨_,rfl,⟨⟨_,hW⟩,rfl⟩,?_⟩
  simp only [Act.put,pgE,pjE]
  generalize W2.drew.heap.size=sb at hS hwz hsz3 ⊢
  refine clX 6 (some 21) 213 #[.map (some sb),.slice ta zs.length tc] 2 (by kernel_rfl) rfl ?_
  refine (hun _ _ hS (ht.below (hb0.trans (hW.mono hb0.size))) (fun b off e=>?_)).mono ?_
  ·obtain ⟨b',off',e',hlt⟩:=hta
   rw [e] at e'
   simp only [Option.some.injEq,Addr.mk.injEq,and_true] at e'
   omega
  rintro e w4 ⟨ub,uc,rfl,o4,hO⟩
  replace hW:=below_only hW hO hwz (by omega)
  clear hO hS
  refine Or.inl ⟨_,rfl,⟨⟨_,hW⟩,rfl⟩,?_⟩
  simp only [Act.put,pgE,pjE]
  refine onX 9 1 rfl (by kernel_rfl) ?_
  go_wp2
  refine ThenX.to ⟨Or.inr ⟨⟨_,hW⟩,rfl⟩,?_⟩
  refine onX 10 0 rfl (by kernel_rfl) ?_
  have hbr:=Br.lt
  have hap:=own_apart3' o1 o4 (by omega)
  replace Br:=Br.below hW
  replace o1:=own_below o1 hW
  replace hb0:=hb0.trans (hW.mono hb0.size)
  obtain ⟨p0,p1,p2,p3⟩:=Br.cel4
  obtain ⟨f0,f1,f2,f3⟩:=Br.frz4
  go_wp2
  refine ThenX.to ⟨Or.inl (by kernel_rfl),?_⟩
  refine endX (by kernel_rfl) ?_
  go_wp2
  have n1:∀ k,(Value.slice ub U.length uc).ownBlock=some k→k≠w.heap.size + 1:=fun k hk=>by have:=(o4.lt k hk).1;omega
  have n2:∀ k,(Value.slice ib R.length ic).ownBlock=some k→k≠w.heap.size + 1:=fun k hk=>by have:=(o1.lt k hk).1;omega
  refine bodyPost_ret (v:=.agg #[.int .i64 0,.int .i64 V,.slice ub U.length uc,.slice ib R.length ic]) (by simp [results,Tryz.results175,go_sem,p0,p1,p2,p3]) rfl ⟨_,_,_,_,rfl,⟨OwnS.of (own_base (own_set_other (own_set_other (own_set_other (own_set_other o4 n1) n1) n1) n1) (by omega)),OwnS.of (own_base (own_set_other (own_set_other (own_set_other (own_set_other o1 n2) n2) n2) n2) (by omega)),hap⟩,?_⟩
  repeat' (refine Below.setCell ?_ (by dsimp only;omega) _)
  exact hb0

end Go.Proofs.YtjjoahhnkpjolaaGreatDoor

/- Texts joined, with what the law reaches alone. -/
import Derived.Test.YthmcgflmejofbaaGreatDoorSRAE
import Derived.Test.YthmcgflmejofbaaGreatDoorSRAJ
import Derived.Test.YthmcgflmejofbaaGreatDoorSRAD
import Derived.Lib.AppendZeros
import Derived.Test.YthmcgflmejofbaaGreatDoorSRAI
set_option linter.unusedVariables false
set_option linter.unusedSimpArgs false
namespace Go.Proofs.YthmcgflmejofbaaGreatDoor
open Go.RowKit
open Go.BigFrame
set_option maxRecDepth 100000
section
variable {ops:Array Oper} {rest:List Oper} {o:Oper} {a:Act} {Q:Exit→Act→World→Prop}
/-- All of a list behind a list that the call owns. -/
theorem wpList_app_k {P:Type} {K:Kind P} (w:World) (hgd:o.guard=none) (s x:Operand) (t:TypeId) (ho:o.op=.call { callee:=.builtin .append,args:=#[s,x],argTypes:=#[t,t] })
  (i0:TypeInfo) (z:Value) (by_:Nat) (ht:Tryz.prog.underlying t=some (.slice K.ty)) (hi:Tryz.prog.info? K.ty=some i0) (hz0:i0.zero=some z) (hz1:i0.size=K.size) (hz2:i0.bytes=by_) (hzs:z.cells.size=K.size) (hsz:0 < K.size)
  (B:Nat) (v:Value) (rs:List P) (hs:a.eval s=v) (hown:w.ownsRow B K.ty K.size v rs.length (K.row rs)) (sa:Option Addr) (xs:List P) (sc:Nat) (hx:a.eval x=.slice sa xs.length sc) (hr:Lies w sa (K.row xs)) (h1:∀ u∈K.row xs,u.oneCell' = true) (hN:Nice sa xs.length sc)
  (hm:rs.length + xs.length≤maxLen) (hb:(rs.length + xs.length) * by_≤140737488355328) (hB:B≤w.heap.size)
  (h:∀ v' w',w'.ownsRow B K.ty K.size v' (rs ++ xs).length (K.row (rs ++ xs))→w.grownBy w' v.ownBlock→wpList Tryz.prog ops Q rest (a.put o.dst v') w'):wpList Tryz.prog ops Q (o :: rest) a w:=by
 have e:K.row (rs ++ xs)=K.row rs ++ K.row xs:=by simp [Kind.row]
 rw [e,List.length_append] at h
 rcases hN with ⟨ad,rfl⟩ | ⟨rfl,hn,rfl⟩
 ·exact wpList_append_own w hgd s x t ho B K.ty i0 z K.size by_ ht hi hz0 hz1 hz2 hzs hsz v rs.length (K.row rs) hs hown ad xs.length sc (K.row xs) hx (Kind.row_length xs) (lies_srcI hr) h1 hm hb hB (fun v' w' h2 h3 _=>h v' w' h2 h3)
 ·have hz:xs=[]:=List.eq_nil_of_length_eq_zero hn
  subst hz
  refine wpList_append_own_none hgd s x t ho B K.ty i0 K.size ht hi v rs.length (K.row rs) hs hown hx ?_
  exact h _ _ (by simpa [Kind.row] using hown) (World.grownBy.refl _ _)

end
/-- A slice as Go makes them: it points somewhere, or it is nil. -/
def NiceV (v:Value):Prop:=∀ a n c,v=.slice a n c→Nice a n c

theorem Kind.Own.niceV {P:Type} {K:Kind P} {w:World} {v:Value} {ps:List P} (h:K.Own w v ps):NiceV v:=by
 intro a n c e
 rcases h.1.2 with ⟨h1,_⟩ | ⟨g,cap,cur,h1,_⟩
 ·rw [h1] at e
  simp only [Value.slice.injEq] at e
  obtain ⟨rfl,rfl,rfl⟩:=e
  exact Or.inr ⟨rfl,rfl,rfl⟩
 ·rw [h1] at e
  simp only [Value.slice.injEq] at e
  obtain ⟨rfl,_,_⟩:=e
  exact Or.inl ⟨_,rfl⟩

theorem txns_one {w:World} {ps:List TxnQ} (h:∀ p∈ps,txnK.rd w p):∀ u∈txnK.row ps,u.oneCell' = true:=by
 intro u hu
 obtain ⟨p,hp,hu⟩:=List.mem_flatMap.1 hu
 have hr:actK.At w p.va p.acts:=h p hp
 obtain ⟨a,c,e⟩:=hr.shape
 have hu:u∈[Value.int .i64 p.i,.int .i64 p.s,.int .i64 p.q,p.va]:=hu
 rw [e] at hu
 simp only [List.mem_cons,List.not_mem_nil,or_false] at hu
 rcases hu with rfl | rfl | rfl | rfl <;> rfl

set_option maxRecDepth 100000 in
set_option maxHeartbeats 2000000 in
theorem grow9_any (n:Nat) (w:World) (hn:n≤1000) :
  Calls Tryz.prog 124 #[.slice none 0 0,.int .i64 n] w fun e w' => ∃ v,e=.returned v∧w'.ownsRow w.heap.size 31 4 v 0 []∧Below w.heap.size w w' := by
 obtain ⟨i0,hi,hz0,hz1,hz2⟩:=info_parts infoTxn
 by_cases h0:n=0
 ·subst h0
  go_enter Tryz.func124,Tryz.ntmps124
  go_wp2
  go_ret
  exact ⟨_,rfl,World.ownsRow_nil _ _ _ _,Below.refl _ _⟩
 ·have hap:=Lib.run_append_nil_zeros (P:=Tryz.prog) w 24 3 24 31 i0 (.agg #[.int .i64 0,.int .i64 0,.int .i64 0,.slice none 0 0]) .i64 .i64 Tryz.underlying24 Tryz.underlying3 hi hz0 n (by omega) (by rw [hz1];decide) (by omega) (by rw [hz2];omega)
  have hge:=grownCap_ge w n 0 31
  have hle:=grownCap_le_maxLen w n 0 31 (by unfold maxLen;omega)
  generalize grownCap w n 0 31=cp at *
  have hsz:(Builtin.zeroCells (Value.agg #[.int .i64 0,.int .i64 0,.int .i64 0,.slice none 0 0]).cells n ++ Builtin.zeroCells (Value.agg #[.int .i64 0,.int .i64 0,.int .i64 0,.slice none 0 0]).cells (cp - n)).size=cp * 4:=by
   rw [Array.size_append,size_zeroCells,size_zeroCells]
   show n * 4 + (cp - n) * 4=cp * 4
   omega
  have ho:=World.ownsRow_made (base:=w.heap.size) (e:=31) (size:=4) w.drew _ cp (by simp) hle hsz
  have hB:Below w.heap.size w (w.drew.alloc (.cells (Builtin.zeroCells (Value.agg #[.int .i64 0,.int .i64 0,.int .i64 0,.slice none 0 0]).cells n ++ Builtin.zeroCells (Value.agg #[.int .i64 0,.int .i64 0,.int .i64 0,.slice none 0 0]).cells (cp - n)) 31)):=by go_grown
  generalize (Builtin.zeroCells (Value.agg #[.int .i64 0,.int .i64 0,.int .i64 0,.slice none 0 0]).cells n ++ Builtin.zeroCells (Value.agg #[.int .i64 0,.int .i64 0,.int .i64 0,.slice none 0 0]).cells (cp - n))=cz at *
  have hni:(0:Int) < (n:Int):=by omega
  have hcpi:(0:Int)≤(cp:Int):=by omega
  go_enter Tryz.func124,Tryz.ntmps124
  go_wp2_with (at_builtin;refine Lib.wpList_append_run _ rfl _ _ _ _ rfl _ _ rfl rfl _ _ hap ?_)
  go_wp2
  go_ret
  exact ⟨_,rfl,ho,hB⟩

set_option maxRecDepth 100000 in
set_option maxHeartbeats 4000000 in
theorem concat9_any (b cp:Nat) (v1 v2:Value) (ps qs:List TxnQ) (w:World) (hb:b < w.heap.size) (k0:w.cell? ⟨b,0,none⟩=some v1) (k1:w.cell? ⟨b,1,none⟩=some v2) (h1:txnK.At w v1 ps) (h2:txnK.At w v2 qs) (n1:NiceV v1) (n2:NiceV v2) (hl:ps.length + qs.length≤1000) :
  Calls Tryz.prog 62 #[.slice (some ⟨b,0,none⟩) 2 cp] w fun e w' => ∃ v,e=.returned v∧w'.ownsRow w.heap.size 31 4 v (ps ++ qs).length (txnK.row (ps ++ qs))∧Below w.heap.size w w' := by
 obtain ⟨i0,hi,hz0,hz1,hz2⟩:=info_parts infoTxn
 obtain ⟨a1,c1,rfl⟩:=h1.shape
 obtain ⟨a2,c2,rfl⟩:=h2.shape
 have m1:=n1 _ _ _ rfl
 have m2:=n2 _ _ _ rfl
 clear n1 n2
 have hp1:(ps.length:Int)≤1000:=by omega
 have hq1:(qs.length:Int)≤1000:=by omega
 have hsum:((ps.length + qs.length:Nat):Int)=(ps.length:Int) + (qs.length:Int):=by omega
 go_enter Tryz.func62,Tryz.ntmps62
 go_wp2
 go_loopw [3,11] (fun s i wr=>∃ k:Nat,k≤2∧i=.int .i64 k∧s=.int .i64 (if k=0 then 0 else if k=1 then (ps.length:Int) else (ps.length:Int) + (qs.length:Int))∧wr=w) (fun _ i _=>2 - (intOf i).toNat)
 case atStart=>exact ⟨0,by omega,rfl,rfl,rfl⟩
 case round=>
  obtain ⟨k,hk,rfl,rfl,rfl⟩:=hrel
  obtain rfl | rfl | rfl:k=0∨k=1∨k=2:=by omega
  ·go_wp2
   go_roundw
   case rel=>exact ⟨1,by omega,by go_num,by first | rfl | (congr 1;simp) | simp,by trivial⟩
   case measure=>simp [intOf]
  ·go_wp2
   go_roundw
   case rel=>exact ⟨2,by omega,by go_num,by first | rfl | (congr 1;simp) | simp,by trivial⟩
   case measure=>simp [intOf]
  ·obtain ⟨U,rfl⟩:∃ U,U=wr:=⟨_,rfl⟩
   have hg:=grow9_any (ps.length + qs.length) U (by omega)
   rw [hsum] at hg
   simp only [show ¬ (2=0) by decide,show ¬ (2=1) by decide,if_false]
   go_wp2_with fail
   refine hg.mono ?_
   rintro e w2 ⟨v,rfl,ho,hB⟩
   obtain ⟨sa,sc,rfl⟩:=own_shape ho
   clear hg
   go_wp2
   go_loopw [6,27] (fun s i wx=>∃ (k:Nat) (rs:List TxnQ),k≤2∧i=.int .i64 k∧Hid (rs=if k=0 then [] else if k=1 then ps else ps ++ qs)∧wx.ownsRow U.heap.size 31 4 s rs.length (txnK.row rs)∧Below U.heap.size U wx) (fun _ i _=>2 - (intOf i).toNat)
   case atStart=>exact ⟨0,[],by omega,rfl,(rfl:_=_),ho,hB⟩
   case round=>
    clear ho hB
    obtain ⟨k,rs,hk,rfl,HR,ho,hB⟩:=hrel
    obtain ⟨sa,sc,rfl⟩:=own_shape ho
    have g1:=(h1.below hB)
    have g2:=(h2.below hB)
    obtain ⟨_,_,e1,l1,r1⟩:=g1
    obtain ⟨_,_,e2,l2,r2⟩:=g2
    simp only [Value.slice.injEq,true_and] at e1 e2
    obtain ⟨rfl,rfl⟩:=e1
    obtain ⟨rfl,rfl⟩:=e2
    have o1:=txns_one r1
    have o2:=txns_one r2
    have d0:=(hB.cell (p:=⟨b,0,none⟩) hb).trans k0
    have d1:=(hB.cell (p:=⟨b,1,none⟩) hb).trans k1
    have hlow:=hB.size
    obtain rfl | rfl | rfl:k=0∨k=1∨k=2:=by omega
    ·have hrs:rs=[]:=HR.out
     subst hrs
     have x1:([]:List TxnQ).length + ps.length≤maxLen:=by unfold maxLen;rw [List.length_nil];omega
     have x2:(([]:List TxnQ).length + ps.length) * 48≤140737488355328:=by rw [List.length_nil];omega
     go_wp2_with (at_builtin;refine wpList_app_k (K:=txnK) _ rfl _ _ 24 rfl i0 (.agg #[.int .i64 0,.int .i64 0,.int .i64 0,.slice none 0 0]) 48 Tryz.underlying24 hi hz0 hz1 hz2 rfl (by decide) U.heap.size _ [] rfl ho _ ps _ rfl l1 o1 m1 x1 x2 hlow ?_)
     intro v' w5 hown hgrow
     have hB5:Below U.heap.size U w5:=hB.grown hgrow (by omega) (fun k hk=>(ho.lt k hk).1)
     obtain ⟨sa5,sc5,rfl⟩:=own_shape hown
     clear d0 d1 l1 l2 o1 o2 r1 r2 ho hgrow hB HR
     try simp only [List.nil_append] at hown ⊢
     go_wp2
     go_roundw
     case rel=>exact ⟨1,ps,by omega,by go_num,(rfl:_=_),(by first | exact hown | (rw [List.length_append];exact hown) | simpa using hown),hB5⟩
     case measure=>simp [intOf]
    ·have hrs:rs=ps:=HR.out
     subst hrs
     have x1:rs.length + qs.length≤maxLen:=by unfold maxLen;omega
     have x2:(rs.length + qs.length) * 48≤140737488355328:=by omega
     go_wp2_with (at_builtin;refine wpList_app_k (K:=txnK) _ rfl _ _ 24 rfl i0 (.agg #[.int .i64 0,.int .i64 0,.int .i64 0,.slice none 0 0]) 48 Tryz.underlying24 hi hz0 hz1 hz2 rfl (by decide) U.heap.size _ rs rfl ho _ qs _ rfl l2 o2 m2 x1 x2 hlow ?_)
     intro v' w5 hown hgrow
     have hB5:Below U.heap.size U w5:=hB.grown hgrow (by omega) (fun k hk=>(ho.lt k hk).1)
     obtain ⟨sa5,sc5,rfl⟩:=own_shape hown
     clear d0 d1 l1 l2 o1 o2 r1 r2 ho hgrow hB HR
     go_wp2
     go_roundw
     case rel=>exact ⟨2,rs ++ qs,by omega,by go_num,(rfl:_=_),(by first | exact hown | (rw [List.length_append];exact hown) | simpa using hown),hB5⟩
     case measure=>simp [intOf]
    ·have hrs:rs=ps ++ qs:=HR.out
     subst hrs
     clear d0 d1 l1 l2 o1 o2 r1 r2 HR
     go_wp2
     go_ret
     exact ⟨_,rfl,ho,hB⟩

end Go.Proofs.YthmcgflmejofbaaGreatDoor
namespace Go.Proofs.YthmcgflmejofbaaGreatDoor
open Go.RowKit
open Go.BigFrame
set_option maxRecDepth 100000
/-- A deed where it lies. -/
structure DeedQ where
 i:Int
 s:Int
 q:Int
 va:Value
 acts:List ActD
 code:Int
 val:Int
 lv:Value
 us:List UndoD

/-- Deeds that leave nothing; their acts lie in the memory of w0. -/
def deedNK (w0:World):Kind DeedQ where
 ty:=215
 size:=6
 cells p:=[.int .i64 p.i,.int .i64 p.s,.int .i64 p.q,p.va,.int .i64 p.code,.int .i64 p.val]
 own _ p:=actK.At w0 p.va p.acts
 rd _ p:=actK.At w0 p.va p.acts
 foot _:=[]
 len _:=rfl
 own_rd h:=h
 own_out h _ _:=h
 own_lt _ k hk:=by simp at hk
 rd_below h _:=h

/-- Deeds that leave what undoes them. -/
def deedUK (w0:World):Kind DeedQ where
 ty:=112
 size:=7
 cells p:=[.int .i64 p.i,.int .i64 p.s,.int .i64 p.q,p.va,.int .i64 p.code,.int .i64 p.val,p.lv]
 own w p:=actK.At w0 p.va p.acts∧undoK.Own w p.lv p.us
 rd w p:=actK.At w0 p.va p.acts∧undoK.At w p.lv p.us
 foot p:=undoK.fp p.lv p.us
 len _:=rfl
 own_rd h:=⟨h.1,h.2.at⟩
 own_out h ho hd:=⟨h.1,h.2.out ho hd⟩
 own_lt h:=h.2.lt
 rd_below h hb:=⟨h.1,h.2.below hb⟩

theorem infoDeedN:(Tryz.prog.info? 215).map (fun i=>(i.zero,i.size,i.bytes))=some (some (.agg #[.int .i64 0,.int .i64 0,.int .i64 0,.slice none 0 0,.int .i64 0,.int .i64 0]),6,72):=by kernel_rfl

theorem infoDeedU:(Tryz.prog.info? 112).map (fun i=>(i.zero,i.size,i.bytes))=some (some (.agg #[.int .i64 0,.int .i64 0,.int .i64 0,.slice none 0 0,.int .i64 0,.int .i64 0,.slice none 0 0]),7,88):=by kernel_rfl

set_option maxRecDepth 100000 in
set_option maxHeartbeats 4000000 in
theorem addN_any (rb:Nat) (d0 i0:Value) (r2 r3:Value) (m:Nat) (xs:List Value) (i s q:Int) (va:Value) (code val:Int) (vu:Value) (ia:Option Addr) (il ic:Nat) (w:World) (B:Blk w rb 107 #[d0,i0,r2,r3]) (ho:w.ownsRow 0 215 6 d0 m xs) (hrb:rb ∉ blk d0) (hm:m≤100) (hva:va.oneCell' = true) :
  Calls Tryz.prog 121 #[.pointer (some ⟨rb,0,none⟩),.agg #[.int .i64 i,.int .i64 s,.int .i64 q,va],.agg #[.int .i64 code,.int .i64 val,vu,.slice ia il ic],.agg #[]] w fun e w' => e=.returned (.tuple #[])∧∃ d1,Blk w' rb 107 #[d1,(if code=0 then .slice ia il ic else i0),r2,r3]∧w'.ownsRow 0 215 6 d1 (m + 1) (xs ++ [.int .i64 i,.int .i64 s,.int .i64 q,va,.int .i64 code,.int .i64 val])∧(d1.ownBlock=d0.ownBlock∨∃ g,d1.ownBlock=some g∧w.heap.size≤g)∧Out (rb :: blk d0) w w' := by
 obtain ⟨sa,sc,rfl⟩:=own_shape ho
 obtain ⟨it,hi,hz0,hz1,hz2⟩:=info_parts infoDeedN
 have hrl:=B.lt
 have hlt0:∀ k∈blk (Value.slice sa m sc),k < w.heap.size:=fun k hk=>(ho.lt k (by simpa [blk] using hk)).2
 have hb0:Below w.heap.size w (((w.alloc (.cells #[.int .i64 i,.int .i64 s,.int .i64 q,va] 31)).alloc (.cells #[.int .i64 code,.int .i64 val,vu,.slice ia il ic] 185)).alloc (.cells #[] 158)):=by go_grown
 have Bt:=(Blk.new w 31 #[.int .i64 i,.int .i64 s,.int .i64 q,va]).below (w' := (((w.alloc (.cells #[.int .i64 i,.int .i64 s,.int .i64 q,va] 31)).alloc (.cells #[.int .i64 code,.int .i64 val,vu,.slice ia il ic] 185)).alloc (.cells #[] 158))) (by go_grown)
 have Bn:=(Blk.new (w.alloc (.cells #[.int .i64 i,.int .i64 s,.int .i64 q,va] 31)) 185 #[.int .i64 code,.int .i64 val,vu,.slice ia il ic]).below (w' := (((w.alloc (.cells #[.int .i64 i,.int .i64 s,.int .i64 q,va] 31)).alloc (.cells #[.int .i64 code,.int .i64 val,vu,.slice ia il ic] 185)).alloc (.cells #[] 158))) (by go_grown)
 simp only [World.size_alloc] at Bn
 have hsW:w.heap.size + 1 < (((w.alloc (.cells #[.int .i64 i,.int .i64 s,.int .i64 q,va] 31)).alloc (.cells #[.int .i64 code,.int .i64 val,vu,.slice ia il ic] 185)).alloc (.cells #[] 158)).heap.size:=by simp only [World.size_alloc];omega
 replace B:=B.below hb0
 replace ho:=own_below ho hb0
 have hU0:Out (rb :: blk (.slice sa m sc)) w (((w.alloc (.cells #[.int .i64 i,.int .i64 s,.int .i64 q,va] 31)).alloc (.cells #[.int .i64 code,.int .i64 val,vu,.slice ia il ic] 185)).alloc (.cells #[] 158)):=Out.of_below hb0
 have HLO:Hid (∀ k∈blk (Value.slice sa m sc),k≠w.heap.size∧k≠w.heap.size + 1):=fun k hk=>by
  have:=hlt0 k hk
  exact ⟨by omega,by omega⟩
 go_enter Tryz.func121,Tryz.ntmps121
 go_wp2_with fail
 generalize (((w.alloc (.cells #[.int .i64 i,.int .i64 s,.int .i64 q,va] 31)).alloc (.cells #[.int .i64 code,.int .i64 val,vu,.slice ia il ic] 185)).alloc (.cells #[] 158))=W at *
 generalize hH:w.heap.size=H at *
 have hPW:Blk W rb 107 #[.slice sa m sc,i0,r2,r3]∧Blk W H 31 #[.int .i64 i,.int .i64 s,.int .i64 q,va]∧Blk W (H + 1) 185 #[.int .i64 code,.int .i64 val,vu,.slice ia il ic]:=⟨B,Bt,Bn⟩
 generalize hP:(fun u:World=>Blk u rb 107 #[.slice sa m sc,i0,r2,r3]∧Blk u H 31 #[.int .i64 i,.int .i64 s,.int .i64 q,va]∧Blk u (H + 1) 185 #[.int .i64 code,.int .i64 val,vu,.slice ia il ic])=PP
 have hP0:PP W:=by subst hP;exact hPW
 have cc0:∀ u:KeepP PP,u.val.cell? ⟨rb,0,none⟩=some (.slice sa m sc):=fun u=>by have:=u.isP;subst hP;exact this.1.cell 0 _ rfl
 have ct0:∀ u:KeepP PP,u.val.cell? ⟨H,0,none⟩=some (.int .i64 i):=fun u=>by have:=u.isP;subst hP;exact this.2.1.cell 0 _ rfl
 have ct1:∀ u:KeepP PP,u.val.cell? ⟨H,1,none⟩=some (.int .i64 s):=fun u=>by have:=u.isP;subst hP;exact this.2.1.cell 1 _ rfl
 have ct2:∀ u:KeepP PP,u.val.cell? ⟨H,2,none⟩=some (.int .i64 q):=fun u=>by have:=u.isP;subst hP;exact this.2.1.cell 2 _ rfl
 have ct3:∀ u:KeepP PP,u.val.cell? ⟨H,3,none⟩=some va:=fun u=>by have:=u.isP;subst hP;exact this.2.1.cell 3 _ rfl
 have cn0:∀ u:KeepP PP,u.val.cell? ⟨H + 1,0,none⟩=some (.int .i64 code):=fun u=>by have:=u.isP;subst hP;exact this.2.2.cell 0 _ rfl
 have cn1:∀ u:KeepP PP,u.val.cell? ⟨H + 1,1,none⟩=some (.int .i64 val):=fun u=>by have:=u.isP;subst hP;exact this.2.2.cell 1 _ rfl
 have hne:Nonempty (KeepP PP):=⟨⟨W,hP0⟩⟩
 refine beginX (S:=fun w' => ∃ u:KeepP PP,w' = u.val) (R:=fun _ _=>False) 16 (by kernel_rfl) (fun _ _ _ _ h=>h.elim) ?_
 have hPd:PP W.drew:=by subst hP;exact hPW
 refine segX [(0,12)] 5 (by kernel_rfl) (by kernel_rfl) (by kernel_rfl) (by kernel_rfl) (by kernel_rfl) ⟨⟨W.drew,hPd⟩,rfl⟩ ?_
 simp only [pickR,List.toList_toArray,List.flatMap_cons,List.flatMap_nil,List.drop_succ_cons,List.drop_zero,List.take_succ_cons,List.take_zero,List.cons_append,List.nil_append,List.append_nil]
 repeat go_big_quiet_step (fail)
 refine wpQuiet_nil ?_
 generalize hz:Array.foldl _ _ _ _ _=cz
 have hz' : cz=#[.int .i64 i,.int .i64 s,.int .i64 q,va,.int .i64 code,.int .i64 val]:=by rw [← hz];rfl
 subst hz'
 clear hz
 clear cc0 ct0 ct1 ct2 ct3 cn0 cn1 hne hP0
 replace B:Blk W.drew rb 107 #[.slice sa m sc,i0,r2,r3]:=B
 replace Bt:Blk W.drew H 31 #[.int .i64 i,.int .i64 s,.int .i64 q,va]:=Bt
 replace Bn:Blk W.drew (H + 1) 185 #[.int .i64 code,.int .i64 val,vu,.slice ia il ic]:=Bn
 replace ho:=ho.drew
 have hU1:Out (rb :: blk (.slice sa m sc)) w W.drew:=hU0.trans (Out.of_below (Below.refl _ _).drew)
 replace hsW:H + 1 < W.drew.heap.size:=hsW
 clear hPd hU0 hb0 hPW
 generalize W.drew=wd at *
 refine oneX 12 _ 4 (by kernel_rfl) rfl (by kernel_rfl) ?_
 have hbA:Below wd.heap.size wd (wd.alloc (.cells #[.int .i64 i,.int .i64 s,.int .i64 q,va,.int .i64 code,.int .i64 val] 215)):=by go_grown
 go_wp2
 have hsrc:∀ j u,[Value.int .i64 i,.int .i64 s,.int .i64 q,va,.int .i64 code,.int .i64 val][j]? = some u→(wd.alloc (.cells #[.int .i64 i,.int .i64 s,.int .i64 q,va,.int .i64 code,.int .i64 val] 215)).cell? ((⟨wd.heap.size,0,none⟩:Addr).add j)=some u:=by
  intro j u hj;match j,hj with | 0,hj=>simp at hj;subst hj;simp [Addr.add] | 1,hj=>simp at hj;subst hj;simp [Addr.add] | 2,hj=>simp at hj;subst hj;simp [Addr.add] | 3,hj=>simp at hj;subst hj;simp [Addr.add] | 4,hj=>simp at hj;subst hj;simp [Addr.add] | 5,hj=>simp at hj;subst hj;simp [Addr.add]
 replace B:=B.below hbA
 replace Bt:=Bt.below hbA
 replace Bn:=Bn.below hbA
 replace ho:=own_below ho hbA
 replace hU1:=hU1.trans (Out.of_below (F:=rb :: blk (.slice sa m sc)) hbA)
 have hsz:=hbA.size
 refine ThenX.to ⟨Or.inr ⟨⟨_,by subst hP;exact ⟨B,Bt,Bn⟩⟩,rfl⟩,?_⟩
 generalize wd.alloc (.cells #[.int .i64 i,.int .i64 s,.int .i64 q,va,.int .i64 code,.int .i64 val] 215)=wb at *
 refine oneX 13 _ 3 (by kernel_rfl) rfl (by kernel_rfl) ?_
 refine wpList_append_own_at _ rfl _ _ 100 rfl 0 215 it (.agg #[.int .i64 0,.int .i64 0,.int .i64 0,.slice none 0 0,.int .i64 0,.int .i64 0]) 6 72 Tryz.underlying100 hi hz0 hz1 hz2 rfl (by decide) _ m xs rfl ho ⟨wd.heap.size,0,none⟩ 1 1 [.int .i64 i,.int .i64 s,.int .i64 q,va,.int .i64 code,.int .i64 val] rfl rfl hsrc ?c2 ?c3 ?c4 ?c5 ?_
 case c2=>intro u hu;simp at hu;rcases hu with rfl | rfl | rfl | rfl | rfl | rfl <;> first | rfl | exact hva
 case c3=>unfold maxLen;omega
 case c4=>omega
 case c5=>omega
 intro v' wc hown hgrow _ hat
 obtain ⟨a2,c2,rfl⟩:=own_shape hown
 have hUg:Out (blk (.slice sa m sc)) wb wc:=Out.of_grown hgrow
 have hlow:∀ k∈blk (Value.slice sa m sc),k≠H∧k≠H + 1∧k≠rb:=fun k hk=>⟨(HLO.out k hk).1,(HLO.out k hk).2,fun e=>hrb (e ▸ hk)⟩
 replace B:=B.outs8 hUg (fun hk=>(hlow _ hk).2.2 rfl)
 replace Bt:=Bt.outs8 hUg (fun hk=>(hlow _ hk).1 rfl)
 replace Bn:=Bn.outs8 hUg (fun hk=>(hlow _ hk).2.1 rfl)
 replace hU1:=hU1.trans (hUg.mono (fun k hk=>List.mem_cons_of_mem _ hk))
 go_wp2
 refine ThenX.to ⟨Or.inr ⟨⟨_,by subst hP;exact ⟨B,Bt,Bn⟩⟩,rfl⟩,?_⟩
 have hd1:(Value.slice a2 (m + 1) c2).ownBlock=(Value.slice sa m sc).ownBlock∨∃ g,(Value.slice a2 (m + 1) c2).ownBlock=some g∧H≤g:=by
  rcases hat with h | h
  ·exact Or.inl h
  ·exact Or.inr ⟨_,h,by omega⟩
 have hrn:rb ∉ blk (Value.slice a2 (m + 1) c2):=by
  intro hk
  unfold blk at hk hrb
  rcases hd1 with h | ⟨g,h,hg⟩
  ·rw [h] at hk;exact hrb hk
  ·rw [h] at hk
   simp only [Option.toList,List.mem_singleton] at hk
   omega
 clear hat hgrow hsrc hbA ho hUg
 refine oneX 14 _ 2 (by kernel_rfl) rfl (by kernel_rfl) ?_
 go_wp2
 refine ThenX.to ⟨Or.inr ⟨⟨_,by subst hP;exact ⟨B,Bt,Bn⟩⟩,rfl⟩,?_⟩
 refine oneX 15 _ 1 (by kernel_rfl) rfl (by kernel_rfl) ?_
 go_wp2
 refine ThenX.to ⟨Or.inr ⟨⟨_,by subst hP;exact ⟨B,Bt,Bn⟩⟩,rfl⟩,?_⟩
 refine oneX 16 _ 0 (by kernel_rfl) rfl (by kernel_rfl) ?_
 have k1:=B.cell 0 _ rfl
 have k2:=B.frozen 0
 go_wp2
 clear k1 k2
 refine ThenX.to ⟨Or.inl (by kernel_rfl),?_⟩
 refine endX (by kernel_rfl) ?_
 have B1:Blk (wc.setCell ⟨rb,0,none⟩ (.slice a2 (m + 1) c2)) rb 107 #[.slice a2 (m + 1) c2,i0,r2,r3]:=by
  have:=B.set 0 (.slice a2 (m + 1) c2)
  simpa using this
 have Bn1:=Bn.other (b' := rb) (by omega) 0 (.slice a2 (m + 1) c2)
 have ho1:=own_outs hown (Out.setCell wc rb 0 (.slice a2 (m + 1) c2)) (fun k hk e=>by simp only [List.mem_singleton] at e;subst e;exact hrn hk)
 have hU2:=hU1.trans ((Out.setCell wc rb 0 (.slice a2 (m + 1) c2)).mono (G:=rb :: blk (.slice sa m sc)) (fun k hk=>by simp only [List.mem_singleton] at hk;subst hk;simp))
 generalize wc.setCell ⟨rb,0,none⟩ (.slice a2 (m + 1) c2)=we at *
 clear B Bn Bt hown hU1
 have n0:=Bn1.cell 0 _ rfl
 have n3:=Bn1.cell 3 _ rfl
 by_cases hc:code=0
 ·subst hc
  have k1:=B1.cell 1 _ rfl
  have k2:=B1.frozen 1
  have B2:Blk (we.setCell ⟨rb,1,none⟩ (.slice ia il ic)) rb 107 #[.slice a2 (m + 1) c2,.slice ia il ic,r2,r3]:=by
   have:=B1.set 1 (.slice ia il ic)
   simpa using this
  have ho2:=own_outs ho1 (Out.setCell we rb 1 (.slice ia il ic)) (fun k hk e=>by simp only [List.mem_singleton] at e;subst e;exact hrn hk)
  have hU3:=hU2.trans ((Out.setCell we rb 1 (.slice ia il ic)).mono (G:=rb :: blk (.slice sa m sc)) (fun k hk=>by simp only [List.mem_singleton] at hk;subst hk;simp))
  go_wp2
  go_end0
  exact ⟨rfl,_,B2,ho2,hd1,hU3⟩
 ·have hcb:(code == 0)=false:=by simpa using hc
  go_wp2
  go_end0
  try rw [if_neg hc]
  exact ⟨rfl,_,B1,ho1,hd1,hU2⟩

set_option maxRecDepth 100000 in
set_option maxHeartbeats 4000000 in
theorem addU_any (rb:Nat) (d0 i0:Value) (r0 r1:Value) (m:Nat) (xs:List Value) (i s q:Int) (va:Value) (code val:Int) (vu:Value) (ia:Option Addr) (il ic:Nat) (la:Option Addr) (ln lc:Nat) (w:World) (B:Blk w rb 107 #[r0,r1,d0,i0]) (ho:w.ownsRow 0 112 7 d0 m xs) (hrb:rb ∉ blk d0) (hm:m≤100) (hva:va.oneCell' = true) :
  Calls Tryz.prog 123 #[.pointer (some ⟨rb,2,none⟩),.agg #[.int .i64 i,.int .i64 s,.int .i64 q,va],.agg #[.int .i64 code,.int .i64 val,vu,.slice ia il ic],.slice la ln lc] w fun e w' => e=.returned (.tuple #[])∧∃ d1,Blk w' rb 107 #[r0,r1,d1,(if code=0 then .slice ia il ic else i0)]∧w'.ownsRow 0 112 7 d1 (m + 1) (xs ++ [.int .i64 i,.int .i64 s,.int .i64 q,va,.int .i64 code,.int .i64 val,.slice la ln lc])∧(d1.ownBlock=d0.ownBlock∨∃ g,d1.ownBlock=some g∧w.heap.size≤g)∧Out (rb :: blk d0) w w' := by
 obtain ⟨sa,sc,rfl⟩:=own_shape ho
 obtain ⟨it,hi,hz0,hz1,hz2⟩:=info_parts infoDeedU
 have hrl:=B.lt
 have hlt0:∀ k∈blk (Value.slice sa m sc),k < w.heap.size:=fun k hk=>(ho.lt k (by simpa [blk] using hk)).2
 have hb0:Below w.heap.size w ((w.alloc (.cells #[.int .i64 i,.int .i64 s,.int .i64 q,va] 31)).alloc (.cells #[.int .i64 code,.int .i64 val,vu,.slice ia il ic] 185)):=by go_grown
 have Bt:=(Blk.new w 31 #[.int .i64 i,.int .i64 s,.int .i64 q,va]).below (w' := ((w.alloc (.cells #[.int .i64 i,.int .i64 s,.int .i64 q,va] 31)).alloc (.cells #[.int .i64 code,.int .i64 val,vu,.slice ia il ic] 185))) (by go_grown)
 have Bn:=Blk.new (w.alloc (.cells #[.int .i64 i,.int .i64 s,.int .i64 q,va] 31)) 185 #[.int .i64 code,.int .i64 val,vu,.slice ia il ic]
 simp only [World.size_alloc] at Bn
 have hsW:w.heap.size + 1 < ((w.alloc (.cells #[.int .i64 i,.int .i64 s,.int .i64 q,va] 31)).alloc (.cells #[.int .i64 code,.int .i64 val,vu,.slice ia il ic] 185)).heap.size:=by simp only [World.size_alloc];omega
 replace B:=B.below hb0
 replace ho:=own_below ho hb0
 have hU0:Out (rb :: blk (.slice sa m sc)) w ((w.alloc (.cells #[.int .i64 i,.int .i64 s,.int .i64 q,va] 31)).alloc (.cells #[.int .i64 code,.int .i64 val,vu,.slice ia il ic] 185)):=Out.of_below hb0
 have HLO:Hid (∀ k∈blk (Value.slice sa m sc),k≠w.heap.size∧k≠w.heap.size + 1):=fun k hk=>by
  have:=hlt0 k hk
  exact ⟨by omega,by omega⟩
 go_enter Tryz.func123,Tryz.ntmps123
 go_wp2_with fail
 generalize ((w.alloc (.cells #[.int .i64 i,.int .i64 s,.int .i64 q,va] 31)).alloc (.cells #[.int .i64 code,.int .i64 val,vu,.slice ia il ic] 185))=W at *
 generalize hH:w.heap.size=H at *
 have hPW:Blk W rb 107 #[r0,r1,.slice sa m sc,i0]∧Blk W H 31 #[.int .i64 i,.int .i64 s,.int .i64 q,va]∧Blk W (H + 1) 185 #[.int .i64 code,.int .i64 val,vu,.slice ia il ic]:=⟨B,Bt,Bn⟩
 generalize hP:(fun u:World=>Blk u rb 107 #[r0,r1,.slice sa m sc,i0]∧Blk u H 31 #[.int .i64 i,.int .i64 s,.int .i64 q,va]∧Blk u (H + 1) 185 #[.int .i64 code,.int .i64 val,vu,.slice ia il ic])=PP
 have hP0:PP W:=by subst hP;exact hPW
 have cc0:∀ u:KeepP PP,u.val.cell? ⟨rb,2,none⟩=some (.slice sa m sc):=fun u=>by have:=u.isP;subst hP;exact this.1.cell 2 _ rfl
 have ct0:∀ u:KeepP PP,u.val.cell? ⟨H,0,none⟩=some (.int .i64 i):=fun u=>by have:=u.isP;subst hP;exact this.2.1.cell 0 _ rfl
 have ct1:∀ u:KeepP PP,u.val.cell? ⟨H,1,none⟩=some (.int .i64 s):=fun u=>by have:=u.isP;subst hP;exact this.2.1.cell 1 _ rfl
 have ct2:∀ u:KeepP PP,u.val.cell? ⟨H,2,none⟩=some (.int .i64 q):=fun u=>by have:=u.isP;subst hP;exact this.2.1.cell 2 _ rfl
 have ct3:∀ u:KeepP PP,u.val.cell? ⟨H,3,none⟩=some va:=fun u=>by have:=u.isP;subst hP;exact this.2.1.cell 3 _ rfl
 have cn0:∀ u:KeepP PP,u.val.cell? ⟨H + 1,0,none⟩=some (.int .i64 code):=fun u=>by have:=u.isP;subst hP;exact this.2.2.cell 0 _ rfl
 have cn1:∀ u:KeepP PP,u.val.cell? ⟨H + 1,1,none⟩=some (.int .i64 val):=fun u=>by have:=u.isP;subst hP;exact this.2.2.cell 1 _ rfl
 have hne:Nonempty (KeepP PP):=⟨⟨W,hP0⟩⟩
 refine beginX (S:=fun w' => ∃ u:KeepP PP,w' = u.val) (R:=fun _ _=>False) 16 (by kernel_rfl) (fun _ _ _ _ h=>h.elim) ?_
 have hPd:PP W.drew:=by subst hP;exact hPW
 refine segX [(0,12)] 5 (by kernel_rfl) (by kernel_rfl) (by kernel_rfl) (by kernel_rfl) (by kernel_rfl) ⟨⟨W.drew,hPd⟩,rfl⟩ ?_
 simp only [pickR,List.toList_toArray,List.flatMap_cons,List.flatMap_nil,List.drop_succ_cons,List.drop_zero,List.take_succ_cons,List.take_zero,List.cons_append,List.nil_append,List.append_nil]
 repeat go_big_quiet_step (fail)
 refine wpQuiet_nil ?_
 clear cc0 ct0 ct1 ct2 ct3 cn0 cn1 hne hP0
 replace B:Blk W.drew rb 107 #[r0,r1,.slice sa m sc,i0]:=B
 replace Bt:Blk W.drew H 31 #[.int .i64 i,.int .i64 s,.int .i64 q,va]:=Bt
 replace Bn:Blk W.drew (H + 1) 185 #[.int .i64 code,.int .i64 val,vu,.slice ia il ic]:=Bn
 replace ho:=ho.drew
 have hU1:Out (rb :: blk (.slice sa m sc)) w W.drew:=hU0.trans (Out.of_below (Below.refl _ _).drew)
 replace hsW:H + 1 < W.drew.heap.size:=hsW
 clear hPd hU0 hb0 hPW
 generalize W.drew=wd at *
 refine oneX 12 _ 4 (by kernel_rfl) rfl (by kernel_rfl) ?_
 have hbA:Below wd.heap.size wd (wd.alloc (.cells #[.int .i64 i,.int .i64 s,.int .i64 q,va,.int .i64 code,.int .i64 val,.slice la ln lc] 112)):=by go_grown
 go_wp2
 have hsrc:∀ j u,[Value.int .i64 i,.int .i64 s,.int .i64 q,va,.int .i64 code,.int .i64 val,.slice la ln lc][j]? = some u→(wd.alloc (.cells #[.int .i64 i,.int .i64 s,.int .i64 q,va,.int .i64 code,.int .i64 val,.slice la ln lc] 112)).cell? ((⟨wd.heap.size,0,none⟩:Addr).add j)=some u:=by
  intro j u hj;match j,hj with | 0,hj=>simp at hj;subst hj;simp [Addr.add] | 1,hj=>simp at hj;subst hj;simp [Addr.add] | 2,hj=>simp at hj;subst hj;simp [Addr.add] | 3,hj=>simp at hj;subst hj;simp [Addr.add] | 4,hj=>simp at hj;subst hj;simp [Addr.add] | 5,hj=>simp at hj;subst hj;simp [Addr.add] | 6,hj=>simp at hj;subst hj;simp [Addr.add]
 replace B:=B.below hbA
 replace Bt:=Bt.below hbA
 replace Bn:=Bn.below hbA
 replace ho:=own_below ho hbA
 replace hU1:=hU1.trans (Out.of_below (F:=rb :: blk (.slice sa m sc)) hbA)
 have hsz:=hbA.size
 refine ThenX.to ⟨Or.inr ⟨⟨_,by subst hP;exact ⟨B,Bt,Bn⟩⟩,rfl⟩,?_⟩
 generalize wd.alloc (.cells #[.int .i64 i,.int .i64 s,.int .i64 q,va,.int .i64 code,.int .i64 val,.slice la ln lc] 112)=wb at *
 refine oneX 13 _ 3 (by kernel_rfl) rfl (by kernel_rfl) ?_
 refine wpList_append_own_at _ rfl _ _ 103 rfl 0 112 it (.agg #[.int .i64 0,.int .i64 0,.int .i64 0,.slice none 0 0,.int .i64 0,.int .i64 0,.slice none 0 0]) 7 88 Tryz.underlying103 hi hz0 hz1 hz2 rfl (by decide) _ m xs rfl ho ⟨wd.heap.size,0,none⟩ 1 1 [.int .i64 i,.int .i64 s,.int .i64 q,va,.int .i64 code,.int .i64 val,.slice la ln lc] rfl rfl hsrc ?c2 ?c3 ?c4 ?c5 ?_
 case c2=>intro u hu;simp at hu;rcases hu with rfl | rfl | rfl | rfl | rfl | rfl | rfl <;> first | rfl | exact hva
 case c3=>unfold maxLen;omega
 case c4=>omega
 case c5=>omega
 intro v' wc hown hgrow _ hat
 obtain ⟨a2,c2,rfl⟩:=own_shape hown
 have hUg:Out (blk (.slice sa m sc)) wb wc:=Out.of_grown hgrow
 have hlow:∀ k∈blk (Value.slice sa m sc),k≠H∧k≠H + 1∧k≠rb:=fun k hk=>⟨(HLO.out k hk).1,(HLO.out k hk).2,fun e=>hrb (e ▸ hk)⟩
 replace B:=B.outs8 hUg (fun hk=>(hlow _ hk).2.2 rfl)
 replace Bt:=Bt.outs8 hUg (fun hk=>(hlow _ hk).1 rfl)
 replace Bn:=Bn.outs8 hUg (fun hk=>(hlow _ hk).2.1 rfl)
 replace hU1:=hU1.trans (hUg.mono (fun k hk=>List.mem_cons_of_mem _ hk))
 go_wp2
 refine ThenX.to ⟨Or.inr ⟨⟨_,by subst hP;exact ⟨B,Bt,Bn⟩⟩,rfl⟩,?_⟩
 have hd1:(Value.slice a2 (m + 1) c2).ownBlock=(Value.slice sa m sc).ownBlock∨∃ g,(Value.slice a2 (m + 1) c2).ownBlock=some g∧H≤g:=by
  rcases hat with h | h
  ·exact Or.inl h
  ·exact Or.inr ⟨_,h,by omega⟩
 have hrn:rb ∉ blk (Value.slice a2 (m + 1) c2):=by
  intro hk
  unfold blk at hk hrb
  rcases hd1 with h | ⟨g,h,hg⟩
  ·rw [h] at hk;exact hrb hk
  ·rw [h] at hk
   simp only [Option.toList,List.mem_singleton] at hk
   omega
 clear hat hgrow hsrc hbA ho hUg
 refine oneX 14 _ 2 (by kernel_rfl) rfl (by kernel_rfl) ?_
 go_wp2
 refine ThenX.to ⟨Or.inr ⟨⟨_,by subst hP;exact ⟨B,Bt,Bn⟩⟩,rfl⟩,?_⟩
 refine oneX 15 _ 1 (by kernel_rfl) rfl (by kernel_rfl) ?_
 go_wp2
 refine ThenX.to ⟨Or.inr ⟨⟨_,by subst hP;exact ⟨B,Bt,Bn⟩⟩,rfl⟩,?_⟩
 refine oneX 16 _ 0 (by kernel_rfl) rfl (by kernel_rfl) ?_
 have k1:=B.cell 2 _ rfl
 have k2:=B.frozen 2
 go_wp2
 clear k1 k2
 refine ThenX.to ⟨Or.inl (by kernel_rfl),?_⟩
 refine endX (by kernel_rfl) ?_
 have B1:Blk (wc.setCell ⟨rb,2,none⟩ (.slice a2 (m + 1) c2)) rb 107 #[r0,r1,.slice a2 (m + 1) c2,i0]:=by
  have:=B.set 2 (.slice a2 (m + 1) c2)
  simpa using this
 have Bn1:=Bn.other (b' := rb) (by omega) 2 (.slice a2 (m + 1) c2)
 have ho1:=own_outs hown (Out.setCell wc rb 2 (.slice a2 (m + 1) c2)) (fun k hk e=>by simp only [List.mem_singleton] at e;subst e;exact hrn hk)
 have hU2:=hU1.trans ((Out.setCell wc rb 2 (.slice a2 (m + 1) c2)).mono (G:=rb :: blk (.slice sa m sc)) (fun k hk=>by simp only [List.mem_singleton] at hk;subst hk;simp))
 generalize wc.setCell ⟨rb,2,none⟩ (.slice a2 (m + 1) c2)=we at *
 clear B Bn Bt hown hU1
 have n0:=Bn1.cell 0 _ rfl
 have n3:=Bn1.cell 3 _ rfl
 by_cases hc:code=0
 ·subst hc
  have k1:=B1.cell 3 _ rfl
  have k2:=B1.frozen 3
  have B2:Blk (we.setCell ⟨rb,3,none⟩ (.slice ia il ic)) rb 107 #[r0,r1,.slice a2 (m + 1) c2,.slice ia il ic]:=by
   have:=B1.set 3 (.slice ia il ic)
   simpa using this
  have ho2:=own_outs ho1 (Out.setCell we rb 3 (.slice ia il ic)) (fun k hk e=>by simp only [List.mem_singleton] at e;subst e;exact hrn hk)
  have hU3:=hU2.trans ((Out.setCell we rb 3 (.slice ia il ic)).mono (G:=rb :: blk (.slice sa m sc)) (fun k hk=>by simp only [List.mem_singleton] at hk;subst hk;simp))
  go_wp2
  go_end0
  exact ⟨rfl,_,B2,ho2,hd1,hU3⟩
 ·have hcb:(code == 0)=false:=by simpa using hc
  go_wp2
  go_end0
  try rw [if_neg hc]
  exact ⟨rfl,_,B1,ho1,hd1,hU2⟩

end Go.Proofs.YthmcgflmejofbaaGreatDoor
namespace Go.Proofs.YthmcgflmejofbaaGreatDoor
open Go.RowKit
open Go.BigFrame
set_option maxRecDepth 100000
def unF1 (x:UndoD):Int:=
 if inW x.key 1 20=false∨inW x.val (-20000) 20000=false then 3 else if x.was=false∧x.val≠0 then 1 else 0

end Go.Proofs.YthmcgflmejofbaaGreatDoor

/- Texts joined, with what the laws reach alone. -/
import Derived.Test.YtpjmlidbligcbaaGreatDoorSSAX
import Derived.Deep.Slices
import Derived.Deep.Strs
import Derived.ProofKit
import Derived.Test.YtpjmlidbligcbaaGreatDoorRows
import Derived.Lib.LaidU8
import Derived.OpenVars
import Derived.LaidMore
import Derived.Stop.LaidErr
import Derived.Stop.Joined
set_option linter.unusedVariables false
set_option linter.unusedSimpArgs false
namespace Go.Proofs.YtpjmlidbligcbaaGreatDoor
open Go.RowKit
open Go.BigFrame
set_option maxRecDepth 100000
set_option maxRecDepth 100000 in
set_option maxHeartbeats 8000000 in
theorem drawPropose_any (a:Option Addr) (cap:Nat) (zs:List Int) (w:World) (h:Row .u8 w a zs) (hu:∀ i,0≤zs.getD i 0∧zs.getD i 0≤255) (hl:zs.length≤1048576) :
  Calls Tryz.prog 13 #[.slice a zs.length cap] w fun e w' => ∃ (q:InstQ) (n1 r1 m1:Int),e=.returned (.tuple #[.agg #[.bool q.has,q.vb,q.vr,q.vd],.int .i64 n1,.int .i64 r1,.int .i64 m1])∧q.n≤1000∧instK.own w' q∧(instK.foot q).Nodup∧(∀ k∈instK.foot q,w.heap.size≤k)∧Below w.heap.size w w' := by
 have hb0:Below w.heap.size w (w.alloc (.cells #[.bool false,.slice none 0 0,.slice none 0 0,.slice none 0 0] 28)):=by go_grown
 have R0:=Blk.new w 28 #[.bool false,.slice none 0 0,.slice none 0 0,.slice none 0 0]
 have hW1:w.heap.size < (w.alloc (.cells #[.bool false,.slice none 0 0,.slice none 0 0,.slice none 0 0] 28)).heap.size:=by simp
 have hby:∀ i,i < zs.length→∃ b' off,a=some ⟨b',off,none⟩∧b' < w.heap.size∧(w.alloc (.cells #[.bool false,.slice none 0 0,.slice none 0 0,.slice none 0 0] 28)).cell? ⟨b',off + i,none⟩=some (.int .u8 (zs.getD i 0)):=fun i hi=>by
  obtain ⟨b',off,e1,e2,e3⟩:=h i hi
  exact ⟨b',off,e1,e2,cellB e3 hb0⟩
 go_enter Tryz.func13,Tryz.ntmps13
 go_wp2_with fail
 generalize w.alloc (.cells #[.bool false,.slice none 0 0,.slice none 0 0,.slice none 0 0] 28)=W at *
 refine (source_any w.heap.size a cap zs W hb0.size hl hu hby).mono ?_
 rintro e x1 ⟨rfl,hS,hb1⟩
 replace R0:=R0.below hb1
 replace hb0:=hb0.trans (hb1.mono hb0.size)
 generalize hbb:W.heap.size=b at *
 clear hb1 hby
 obtain ⟨B,HB⟩:∃ B,Hid (w.heap.size=B):=⟨_,rfl⟩
 rw [HB.out] at hS
 clear hbb
 go_wp2_with fail
 refine (l6Bent_any B b 0 x1 hS (by omega)).mono ?_
 rintro e x2 ⟨q,rfl,hn,oq,nq,gq,hSn,hgn⟩
 have hx1:=hS.lt
 have hU:Out [b] x1 x2:=Out.of_grown hgn
 replace R0:=R0.outs hU (fun hk=>by simp only [List.mem_singleton] at hk;omega)
 replace hb0:=Out.keep hb0 hU hb0.size (fun k hk=>by simp only [List.mem_singleton] at hk;omega)
 replace hS:=hSn
 have hm:=instK.own_lt oq
 clear hSn hgn hU
 obtain ⟨ch,cb,cbs,cr,crs,cd,cds⟩:=q
 obtain ⟨c1,c4,rfl⟩:∃ a c,cb=.slice a cbs.length c:=oq.1.shape
 obtain ⟨c2,c5,rfl⟩:∃ a c,cr=.slice a crs.length c:=oq.2.1.shape
 obtain ⟨c3,c6,rfl⟩:∃ a c,cd=.slice a cds.length c:=oq.2.2.shape
 have hcr:crs.length≤1000:=by
  have h9:=hn
  dsimp only [InstQ.n] at h9
  omega
 have hbA:Below x2.heap.size x2 (x2.alloc (.cells #[.bool ch,.slice c1 cbs.length c4,.slice c2 crs.length c5,.slice c3 cds.length c6] 28)):=by go_grown
 have Bx:=Blk.new x2 28 #[.bool ch,.slice c1 cbs.length c4,.slice c2 crs.length c5,.slice c3 cds.length c6]
 have hgw:w.heap.size < x2.heap.size:=R0.lt
 have hgb:b < x2.heap.size:=hS.lt.2
 replace R0:=R0.below hbA
 replace hS:=hS.below hbA
 replace hb0:=hb0.trans (hbA.mono hb0.size)
 replace oq:=instK.own_out (F:=[]) oq (Out.of_below hbA) (fun _ _=>by simp)
 have low:∀ k∈instK.foot (⟨ch,.slice c1 cbs.length c4,cbs,.slice c2 crs.length c5,crs,.slice c3 cds.length c6,cds⟩:InstQ),b < k∧k≠x2.heap.size:=fun k hk=>⟨by have:=gq k hk;omega,by have:=hm k hk;omega⟩
 clear hbA gq hm
 go_wp2_with fail
 generalize hgx:x2.heap.size=g at *
 generalize x2.alloc (.cells #[.bool ch,.slice c1 cbs.length c4,.slice c2 crs.length c5,.slice c3 cds.length c6] 28)=X at *
 clear hgx
 have hsub:∀ k∈[b],k∈[b,w.heap.size]:=fun k hk=>by simp only [List.mem_singleton] at hk;simp [hk]
 have hs1:∀ k∈[b],k∈[b]:=fun k hk=>hk
 have k0:=lato_cell (F:=[b,w.heap.size]) (Bx.cell 0 _ rfl) (by simp only [List.mem_cons,List.not_mem_nil,or_false];omega)
 have k1:=lato_cell (F:=[b,w.heap.size]) (Bx.cell 1 _ rfl) (by simp only [List.mem_cons,List.not_mem_nil,or_false];omega)
 have k2:=lato_cell (F:=[b,w.heap.size]) (Bx.cell 2 _ rfl) (by simp only [List.mem_cons,List.not_mem_nil,or_false];omega)
 have k3:=lato_cell (F:=[b,w.heap.size]) (Bx.cell 3 _ rfl) (by simp only [List.mem_cons,List.not_mem_nil,or_false];omega)
 refine region_vals [some 12,some 13,some 14,some 15,some 16,some 17,some 18,some 19,some 20,some 21,some 22,some 23,some 24,some 3,some 4,some 5] (fun vs w' => (∃ (n1 r1 m1:Int) (ga gb:Nat),vs=[.agg #[.bool ch,.slice c1 cbs.length c4,.slice c2 crs.length c5,.slice c3 cds.length c6],.pointer (some ⟨b,0,none⟩),.slice (some ⟨ga,0,none⟩) 4 4,.int .i64 n1,.pointer (some ⟨b,0,none⟩),.pointer (some ⟨g,2,none⟩),.slice c2 crs.length c5,.int .i64 (crs.length:Int),.int .i64 ((crs.length:Int) + 1),.int .i64 r1,.pointer (some ⟨b,0,none⟩),.slice (some ⟨gb,0,none⟩) 5 5,.int .i64 m1,.int .i64 n1,.int .i64 r1,.int .i64 m1])∧instK.own w' (⟨ch,.slice c1 cbs.length c4,cbs,.slice c2 crs.length c5,crs,.slice c3 cds.length c6,cds⟩:InstQ)∧Blk w' w.heap.size 28 #[.bool ch,.slice c1 cbs.length c4,.slice c2 crs.length c5,.slice c3 cds.length c6]∧Out [b,w.heap.size] X w') ?_ ?_
 ·have sx:Src B X.drew b (0 + 2600):=hS.below ((Below.refl _ _).drew)
  have ux:Out [b] X X.drew:=Out.of_below ((Below.refl _ _).drew)
  have hnn:Nonempty (LatO [b,w.heap.size] X):=⟨⟨X,Out.refl _ _⟩⟩
  refine text_begin (S:=fun w' => ∃ u:LatO [b,w.heap.size] X,w' = u.val) (by kernel_rfl) ?_
  refine seg_range [(0,2),(4,3)] 12 (by kernel_rfl) (by kernel_rfl) (by kernel_rfl) (by kernel_rfl) (by kernel_rfl) ⟨⟨_,ux.mono hsub⟩,rfl⟩ ?_
  simp only [pickR,List.toList_toArray,List.flatMap_cons,List.flatMap_nil,List.drop_succ_cons,List.drop_zero,List.take_succ_cons,List.take_zero,List.cons_append,List.nil_append,List.append_nil]
  repeat go_big_quiet_step (fail)
  refine wpQuiet_nil ?_
  refine quiet_at 7 (some 19) (.int .i64 (crs.length:Int)) 11 (by kernel_rfl) (by kernel_rfl) (by kernel_rfl) (by kernel_rfl) (by kernel_rfl) (fun u _=>by kernel_rfl) ⟨⟨_,ux.mono hsub⟩,rfl⟩ ?_
  simp only [Act.put,List.getElem_toArray,List.getElem_cons_succ,List.getElem_cons_zero,List.setIfInBounds_toArray,List.set_cons_zero,List.set_cons_succ]
  refine seg_range [(8,1),(10,1)] 9 (by kernel_rfl) (by kernel_rfl) (by kernel_rfl) (by kernel_rfl) (by kernel_rfl) ⟨⟨_,ux.mono hsub⟩,rfl⟩ ?_
  simp only [pickR,List.toList_toArray,List.flatMap_cons,List.flatMap_nil,List.drop_succ_cons,List.drop_zero,List.take_succ_cons,List.take_zero,List.cons_append,List.nil_append,List.append_nil]
  repeat go_big_quiet_step (fail)
  refine wpQuiet_nil ?_
  clear k0 k1 k2 k3
  generalize X.drew=wd at sx ux ⊢
  refine two_at 2 11 8 (by kernel_rfl) (by kernel_rfl) ?_ ?_
  ·skip
   refine op_one 2 _ rfl ?_
   have hp1:=World.ownsRow_lit (e:=2) (size:=1) wd #[.int .i64 0,.int .i64 1,.int .i64 2,.int .i64 3] 4 (Nat.le_refl _) (by decide) rfl
   have hbg1:b < wd.heap.size:=sx.lt.2
   have hba:Below wd.heap.size wd (wd.alloc (.cells #[.int .i64 0,.int .i64 1,.int .i64 2,.int .i64 3] 2)):=by go_grown
   replace sx:=sx.below hba
   replace ux:=ux.trans (Out.of_below hba)
   clear hba
   go_wp2
   refine ThenGo.to ⟨⟨⟨_,ux.mono hsub⟩,rfl⟩,?_⟩
   generalize hGy1:wd.heap.size=g1 at *
   clear hGy1
   generalize wd.alloc (.cells #[.int .i64 0,.int .i64 1,.int .i64 2,.int .i64 3] 2)=y1 at *
   refine two_at 3 11 7 (by kernel_rfl) (by kernel_rfl) ?_ ?_
   ·skip
    refine op_call 3 (some 15) 66 #[.pointer (some ⟨b,0,none⟩),.slice (some ⟨g1,0,none⟩) 4 4] (by kernel_rfl) (by kernel_rfl) (by kernel_rfl) ?_
    refine (pick_any B b (2600) g1 _ [0,1,2,3] _ sx (by omega) hp1 (by simp) (by simp) (by simp [Value.ownBlock];omega)).mono ?_
    rintro e x2 ⟨nd,rfl,_,sn',gn⟩
    clear hp1
    replace sx:=sn'
    have un:Out [b] _ _:=Out.of_grown gn
    replace ux:=ux.trans un
    clear un gn sn'
    refine ⟨_,rfl,⟨⟨_,ux.mono hsub⟩,rfl⟩,?_⟩
    simp only [Act.put,List.getElem_toArray,List.getElem_cons_succ,List.getElem_cons_zero,List.setIfInBounds_toArray,List.set_cons_zero,List.set_cons_succ]
    refine two_at 9 11 6 (by kernel_rfl) (by kernel_rfl) ?_ ?_
    ·skip
     refine op_call 9 (some 21) 65 #[.pointer (some ⟨b,0,none⟩),.int .i64 ((crs.length:Int) + 1)] (by kernel_rfl) (by kernel_rfl) (by kernel_rfl) ?_
     refine (next_any B b (2601) ((crs.length:Int) + 1) _ sx (by omega) (by omega)).mono ?_
     rintro e x3 ⟨rd,rfl,_,sn',gn⟩
     replace sx:=sn'
     have un:Out [b] _ _:=Out.of_grown gn
     replace ux:=ux.trans un
     clear un gn sn'
     refine ⟨_,rfl,⟨⟨_,ux.mono hsub⟩,rfl⟩,?_⟩
     simp only [Act.put,List.getElem_toArray,List.getElem_cons_succ,List.getElem_cons_zero,List.setIfInBounds_toArray,List.set_cons_zero,List.set_cons_succ]
     refine one_at 11 _ 5 (by kernel_rfl) rfl (by kernel_rfl) ?_
     have hp2:=World.ownsRow_lit (e:=2) (size:=1) x3 #[.int .i64 7,.int .i64 3,.int .i64 5,.int .i64 6,.int .i64 1] 5 (Nat.le_refl _) (by decide) rfl
     have hbg2:b < x3.heap.size:=sx.lt.2
     have hba:Below x3.heap.size x3 (x3.alloc (.cells #[.int .i64 7,.int .i64 3,.int .i64 5,.int .i64 6,.int .i64 1] 2)):=by go_grown
     replace sx:=sx.below hba
     replace ux:=ux.trans (Out.of_below hba)
     clear hba
     go_wp2
     refine ThenGo.to ⟨⟨⟨_,ux.mono hsub⟩,rfl⟩,?_⟩
     generalize hGy4:x3.heap.size=g2 at *
     clear hGy4
     generalize x3.alloc (.cells #[.int .i64 7,.int .i64 3,.int .i64 5,.int .i64 6,.int .i64 1] 2)=y4 at *
     refine call_at 12 (some 24) 66 #[.pointer (some ⟨b,0,none⟩),.slice (some ⟨g2,0,none⟩) 5 5] 4 (by kernel_rfl) (by kernel_rfl) (by kernel_rfl) (by kernel_rfl) (by kernel_rfl) ?_
     refine (pick_any B b (2602) g2 _ [7,3,5,6,1] _ sx (by omega) hp2 (by simp) (by simp) (by simp [Value.ownBlock];omega)).mono ?_
     rintro e x5 ⟨md,rfl,_,sn',gn⟩
     clear hp2
     replace sx:=sn'
     have un:Out [b] _ _:=Out.of_grown gn
     replace ux:=ux.trans un
     clear un gn sn'
     refine ⟨_,rfl,⟨⟨_,ux.mono hsub⟩,rfl⟩,?_⟩
     simp only [Act.put,List.getElem_toArray,List.getElem_cons_succ,List.getElem_cons_zero,List.setIfInBounds_toArray,List.set_cons_zero,List.set_cons_succ]
     refine one_at 13 _ 3 (by kernel_rfl) rfl (by kernel_rfl) ?_
     have Rx:=R0.outs (ux.mono hs1) (fun hk=>by simp only [List.mem_singleton] at hk;omega)
     have Rr:=Rx.row #[.bool ch,.slice c1 cbs.length c4,.slice c2 crs.length c5,.slice c3 cds.length c6]
     have hsr:(Tryz.prog.info? 28).map (·.size)=some (#[.bool ch,.slice c1 cbs.length c4,.slice c2 crs.length c5,.slice c3 cds.length c6]:Array Value).size:=sz_inst
     have uz:Out [b,w.heap.size] X (x5.setRow w.heap.size #[.bool ch,.slice c1 cbs.length c4,.slice c2 crs.length c5,.slice c3 cds.length c6]):=(ux.mono hsub).trans ((out_row x5 w.heap.size #[.bool ch,.slice c1 cbs.length c4,.slice c2 crs.length c5,.slice c3 cds.length c6]).mono (fun k hk=>by simp only [List.mem_singleton] at hk;simp [hk]))
     have oz:=instK.own_out oq uz (fun k hk hk' => by simp only [List.mem_cons,List.not_mem_nil,or_false] at hk';have:=low k hk;omega)
     refine st_row (by kernel_rfl) 28 _ _ rfl _ #[.bool ch,.slice c1 cbs.length c4,.slice c2 crs.length c5,.slice c3 cds.length c6] rfl rfl 28 _ Rx hsr rfl (by simp [Value.oneCell']) ?_
     refine ThenGo.to ⟨⟨⟨_,uz⟩,rfl⟩,?_⟩
     try simp only [Act.put,List.getElem_toArray,List.getElem_cons_succ,List.getElem_cons_zero,List.setIfInBounds_toArray,List.set_cons_zero,List.set_cons_succ]
     refine seg_range [(14,3)] 0 (by kernel_rfl) (by kernel_rfl) (by kernel_rfl) (by kernel_rfl) (by kernel_rfl) ⟨⟨_,uz⟩,rfl⟩ ?_
     simp only [pickR,List.toList_toArray,List.flatMap_cons,List.flatMap_nil,List.drop_succ_cons,List.drop_zero,List.take_succ_cons,List.take_zero,List.cons_append,List.nil_append,List.append_nil]
     repeat go_big_quiet_step (fail)
     refine wpQuiet_nil ?_
     refine text_end (by kernel_rfl) ?_
     refine ⟨rfl,_,⟨⟨nd,rd,md,g1,g2,rfl⟩,oz,Rr,uz⟩,?_⟩
     simp only [putAll,Act.put,List.getElem_toArray,List.getElem_cons_succ,List.getElem_cons_zero,List.setIfInBounds_toArray,List.set_cons_zero,List.set_cons_succ]
     try rfl
    ·skip
     refine op_one 11 _ rfl ?_
     have hp2:=World.ownsRow_lit (e:=2) (size:=1) x2 #[.int .i64 7,.int .i64 3,.int .i64 5,.int .i64 6,.int .i64 1] 5 (Nat.le_refl _) (by decide) rfl
     have hbg2:b < x2.heap.size:=sx.lt.2
     have hba:Below x2.heap.size x2 (x2.alloc (.cells #[.int .i64 7,.int .i64 3,.int .i64 5,.int .i64 6,.int .i64 1] 2)):=by go_grown
     replace sx:=sx.below hba
     replace ux:=ux.trans (Out.of_below hba)
     clear hba
     go_wp2
     refine ThenGo.to ⟨⟨⟨_,ux.mono hsub⟩,rfl⟩,?_⟩
     generalize hGy6:x2.heap.size=g2 at *
     clear hGy6
     generalize x2.alloc (.cells #[.int .i64 7,.int .i64 3,.int .i64 5,.int .i64 6,.int .i64 1] 2)=y6 at *
     refine call_at 9 (some 21) 65 #[.pointer (some ⟨b,0,none⟩),.int .i64 ((crs.length:Int) + 1)] 5 (by kernel_rfl) (by kernel_rfl) (by kernel_rfl) (by kernel_rfl) (by kernel_rfl) ?_
     refine (next_any B b (2601) ((crs.length:Int) + 1) _ sx (by omega) (by omega)).mono ?_
     rintro e x7 ⟨rd,rfl,_,sn',gn⟩
     replace hp2:=hp2.kept gn (Or.inr (by simp [Value.ownBlock];omega))
     replace sx:=sn'
     have un:Out [b] _ _:=Out.of_grown gn
     replace ux:=ux.trans un
     clear un gn sn'
     refine ⟨_,rfl,⟨⟨_,ux.mono hsub⟩,rfl⟩,?_⟩
     simp only [Act.put,List.getElem_toArray,List.getElem_cons_succ,List.getElem_cons_zero,List.setIfInBounds_toArray,List.set_cons_zero,List.set_cons_succ]
     refine call_at 12 (some 24) 66 #[.pointer (some ⟨b,0,none⟩),.slice (some ⟨g2,0,none⟩) 5 5] 4 (by kernel_rfl) (by kernel_rfl) (by kernel_rfl) (by kernel_rfl) (by kernel_rfl) ?_
     refine (pick_any B b (2602) g2 _ [7,3,5,6,1] _ sx (by omega) hp2 (by simp) (by simp) (by simp [Value.ownBlock];omega)).mono ?_
     rintro e x8 ⟨md,rfl,_,sn',gn⟩
     clear hp2
     replace sx:=sn'
     have un:Out [b] _ _:=Out.of_grown gn
     replace ux:=ux.trans un
     clear un gn sn'
     refine ⟨_,rfl,⟨⟨_,ux.mono hsub⟩,rfl⟩,?_⟩
     simp only [Act.put,List.getElem_toArray,List.getElem_cons_succ,List.getElem_cons_zero,List.setIfInBounds_toArray,List.set_cons_zero,List.set_cons_succ]
     refine one_at 13 _ 3 (by kernel_rfl) rfl (by kernel_rfl) ?_
     have Rx:=R0.outs (ux.mono hs1) (fun hk=>by simp only [List.mem_singleton] at hk;omega)
     have Rr:=Rx.row #[.bool ch,.slice c1 cbs.length c4,.slice c2 crs.length c5,.slice c3 cds.length c6]
     have hsr:(Tryz.prog.info? 28).map (·.size)=some (#[.bool ch,.slice c1 cbs.length c4,.slice c2 crs.length c5,.slice c3 cds.length c6]:Array Value).size:=sz_inst
     have uz:Out [b,w.heap.size] X (x8.setRow w.heap.size #[.bool ch,.slice c1 cbs.length c4,.slice c2 crs.length c5,.slice c3 cds.length c6]):=(ux.mono hsub).trans ((out_row x8 w.heap.size #[.bool ch,.slice c1 cbs.length c4,.slice c2 crs.length c5,.slice c3 cds.length c6]).mono (fun k hk=>by simp only [List.mem_singleton] at hk;simp [hk]))
     have oz:=instK.own_out oq uz (fun k hk hk' => by simp only [List.mem_cons,List.not_mem_nil,or_false] at hk';have:=low k hk;omega)
     refine st_row (by kernel_rfl) 28 _ _ rfl _ #[.bool ch,.slice c1 cbs.length c4,.slice c2 crs.length c5,.slice c3 cds.length c6] rfl rfl 28 _ Rx hsr rfl (by simp [Value.oneCell']) ?_
     refine ThenGo.to ⟨⟨⟨_,uz⟩,rfl⟩,?_⟩
     try simp only [Act.put,List.getElem_toArray,List.getElem_cons_succ,List.getElem_cons_zero,List.setIfInBounds_toArray,List.set_cons_zero,List.set_cons_succ]
     refine seg_range [(14,3)] 0 (by kernel_rfl) (by kernel_rfl) (by kernel_rfl) (by kernel_rfl) (by kernel_rfl) ⟨⟨_,uz⟩,rfl⟩ ?_
     simp only [pickR,List.toList_toArray,List.flatMap_cons,List.flatMap_nil,List.drop_succ_cons,List.drop_zero,List.take_succ_cons,List.take_zero,List.cons_append,List.nil_append,List.append_nil]
     repeat go_big_quiet_step (fail)
     refine wpQuiet_nil ?_
     refine text_end (by kernel_rfl) ?_
     refine ⟨rfl,_,⟨⟨nd,rd,md,g1,g2,rfl⟩,oz,Rr,uz⟩,?_⟩
     simp only [putAll,Act.put,List.getElem_toArray,List.getElem_cons_succ,List.getElem_cons_zero,List.setIfInBounds_toArray,List.set_cons_zero,List.set_cons_succ]
     try rfl
   ·skip
    refine op_one 11 _ rfl ?_
    have hp2:=World.ownsRow_lit (e:=2) (size:=1) y1 #[.int .i64 7,.int .i64 3,.int .i64 5,.int .i64 6,.int .i64 1] 5 (Nat.le_refl _) (by decide) rfl
    have hbg2:b < y1.heap.size:=sx.lt.2
    have hba:Below y1.heap.size y1 (y1.alloc (.cells #[.int .i64 7,.int .i64 3,.int .i64 5,.int .i64 6,.int .i64 1] 2)):=by go_grown
    replace sx:=sx.below hba
    replace ux:=ux.trans (Out.of_below hba)
    replace hp1:=own_below hp1 hba
    clear hba
    go_wp2
    refine ThenGo.to ⟨⟨⟨_,ux.mono hsub⟩,rfl⟩,?_⟩
    generalize hGy9:y1.heap.size=g2 at *
    clear hGy9
    generalize y1.alloc (.cells #[.int .i64 7,.int .i64 3,.int .i64 5,.int .i64 6,.int .i64 1] 2)=y9 at *
    refine call_at 3 (some 15) 66 #[.pointer (some ⟨b,0,none⟩),.slice (some ⟨g1,0,none⟩) 4 4] 6 (by kernel_rfl) (by kernel_rfl) (by kernel_rfl) (by kernel_rfl) (by kernel_rfl) ?_
    refine (pick_any B b (2600) g1 _ [0,1,2,3] _ sx (by omega) hp1 (by simp) (by simp) (by simp [Value.ownBlock];omega)).mono ?_
    rintro e x10 ⟨nd,rfl,_,sn',gn⟩
    clear hp1
    replace hp2:=hp2.kept gn (Or.inr (by simp [Value.ownBlock];omega))
    replace sx:=sn'
    have un:Out [b] _ _:=Out.of_grown gn
    replace ux:=ux.trans un
    clear un gn sn'
    refine ⟨_,rfl,⟨⟨_,ux.mono hsub⟩,rfl⟩,?_⟩
    simp only [Act.put,List.getElem_toArray,List.getElem_cons_succ,List.getElem_cons_zero,List.setIfInBounds_toArray,List.set_cons_zero,List.set_cons_succ]
    refine call_at 9 (some 21) 65 #[.pointer (some ⟨b,0,none⟩),.int .i64 ((crs.length:Int) + 1)] 5 (by kernel_rfl) (by kernel_rfl) (by kernel_rfl) (by kernel_rfl) (by kernel_rfl) ?_
    refine (next_any B b (2601) ((crs.length:Int) + 1) _ sx (by omega) (by omega)).mono ?_
    rintro e x11 ⟨rd,rfl,_,sn',gn⟩
    replace hp2:=hp2.kept gn (Or.inr (by simp [Value.ownBlock];omega))
    replace sx:=sn'
    have un:Out [b] _ _:=Out.of_grown gn
    replace ux:=ux.trans un
    clear un gn sn'
    refine ⟨_,rfl,⟨⟨_,ux.mono hsub⟩,rfl⟩,?_⟩
    simp only [Act.put,List.getElem_toArray,List.getElem_cons_succ,List.getElem_cons_zero,List.setIfInBounds_toArray,List.set_cons_zero,List.set_cons_succ]
    refine call_at 12 (some 24) 66 #[.pointer (some ⟨b,0,none⟩),.slice (some ⟨g2,0,none⟩) 5 5] 4 (by kernel_rfl) (by kernel_rfl) (by kernel_rfl) (by kernel_rfl) (by kernel_rfl) ?_
    refine (pick_any B b (2602) g2 _ [7,3,5,6,1] _ sx (by omega) hp2 (by simp) (by simp) (by simp [Value.ownBlock];omega)).mono ?_
    rintro e x12 ⟨md,rfl,_,sn',gn⟩
    clear hp2
    replace sx:=sn'
    have un:Out [b] _ _:=Out.of_grown gn
    replace ux:=ux.trans un
    clear un gn sn'
    refine ⟨_,rfl,⟨⟨_,ux.mono hsub⟩,rfl⟩,?_⟩
    simp only [Act.put,List.getElem_toArray,List.getElem_cons_succ,List.getElem_cons_zero,List.setIfInBounds_toArray,List.set_cons_zero,List.set_cons_succ]
    refine one_at 13 _ 3 (by kernel_rfl) rfl (by kernel_rfl) ?_
    have Rx:=R0.outs (ux.mono hs1) (fun hk=>by simp only [List.mem_singleton] at hk;omega)
    have Rr:=Rx.row #[.bool ch,.slice c1 cbs.length c4,.slice c2 crs.length c5,.slice c3 cds.length c6]
    have hsr:(Tryz.prog.info? 28).map (·.size)=some (#[.bool ch,.slice c1 cbs.length c4,.slice c2 crs.length c5,.slice c3 cds.length c6]:Array Value).size:=sz_inst
    have uz:Out [b,w.heap.size] X (x12.setRow w.heap.size #[.bool ch,.slice c1 cbs.length c4,.slice c2 crs.length c5,.slice c3 cds.length c6]):=(ux.mono hsub).trans ((out_row x12 w.heap.size #[.bool ch,.slice c1 cbs.length c4,.slice c2 crs.length c5,.slice c3 cds.length c6]).mono (fun k hk=>by simp only [List.mem_singleton] at hk;simp [hk]))
    have oz:=instK.own_out oq uz (fun k hk hk' => by simp only [List.mem_cons,List.not_mem_nil,or_false] at hk';have:=low k hk;omega)
    refine st_row (by kernel_rfl) 28 _ _ rfl _ #[.bool ch,.slice c1 cbs.length c4,.slice c2 crs.length c5,.slice c3 cds.length c6] rfl rfl 28 _ Rx hsr rfl (by simp [Value.oneCell']) ?_
    refine ThenGo.to ⟨⟨⟨_,uz⟩,rfl⟩,?_⟩
    try simp only [Act.put,List.getElem_toArray,List.getElem_cons_succ,List.getElem_cons_zero,List.setIfInBounds_toArray,List.set_cons_zero,List.set_cons_succ]
    refine seg_range [(14,3)] 0 (by kernel_rfl) (by kernel_rfl) (by kernel_rfl) (by kernel_rfl) (by kernel_rfl) ⟨⟨_,uz⟩,rfl⟩ ?_
    simp only [pickR,List.toList_toArray,List.flatMap_cons,List.flatMap_nil,List.drop_succ_cons,List.drop_zero,List.take_succ_cons,List.take_zero,List.cons_append,List.nil_append,List.append_nil]
    repeat go_big_quiet_step (fail)
    refine wpQuiet_nil ?_
    refine text_end (by kernel_rfl) ?_
    refine ⟨rfl,_,⟨⟨nd,rd,md,g1,g2,rfl⟩,oz,Rr,uz⟩,?_⟩
    simp only [putAll,Act.put,List.getElem_toArray,List.getElem_cons_succ,List.getElem_cons_zero,List.setIfInBounds_toArray,List.set_cons_zero,List.set_cons_succ]
    try rfl
  ·skip
   refine op_one 11 _ rfl ?_
   have hp2:=World.ownsRow_lit (e:=2) (size:=1) wd #[.int .i64 7,.int .i64 3,.int .i64 5,.int .i64 6,.int .i64 1] 5 (Nat.le_refl _) (by decide) rfl
   have hbg2:b < wd.heap.size:=sx.lt.2
   have hba:Below wd.heap.size wd (wd.alloc (.cells #[.int .i64 7,.int .i64 3,.int .i64 5,.int .i64 6,.int .i64 1] 2)):=by go_grown
   replace sx:=sx.below hba
   replace ux:=ux.trans (Out.of_below hba)
   clear hba
   go_wp2
   refine ThenGo.to ⟨⟨⟨_,ux.mono hsub⟩,rfl⟩,?_⟩
   generalize hGy13:wd.heap.size=g2 at *
   clear hGy13
   generalize wd.alloc (.cells #[.int .i64 7,.int .i64 3,.int .i64 5,.int .i64 6,.int .i64 1] 2)=y13 at *
   refine one_at 2 _ 7 (by kernel_rfl) rfl (by kernel_rfl) ?_
   have hp1:=World.ownsRow_lit (e:=2) (size:=1) y13 #[.int .i64 0,.int .i64 1,.int .i64 2,.int .i64 3] 4 (Nat.le_refl _) (by decide) rfl
   have hbg1:b < y13.heap.size:=sx.lt.2
   have hba:Below y13.heap.size y13 (y13.alloc (.cells #[.int .i64 0,.int .i64 1,.int .i64 2,.int .i64 3] 2)):=by go_grown
   replace sx:=sx.below hba
   replace ux:=ux.trans (Out.of_below hba)
   replace hp2:=own_below hp2 hba
   clear hba
   go_wp2
   refine ThenGo.to ⟨⟨⟨_,ux.mono hsub⟩,rfl⟩,?_⟩
   generalize hGy14:y13.heap.size=g1 at *
   clear hGy14
   generalize y13.alloc (.cells #[.int .i64 0,.int .i64 1,.int .i64 2,.int .i64 3] 2)=y14 at *
   refine call_at 3 (some 15) 66 #[.pointer (some ⟨b,0,none⟩),.slice (some ⟨g1,0,none⟩) 4 4] 6 (by kernel_rfl) (by kernel_rfl) (by kernel_rfl) (by kernel_rfl) (by kernel_rfl) ?_
   refine (pick_any B b (2600) g1 _ [0,1,2,3] _ sx (by omega) hp1 (by simp) (by simp) (by simp [Value.ownBlock];omega)).mono ?_
   rintro e x15 ⟨nd,rfl,_,sn',gn⟩
   clear hp1
   replace hp2:=hp2.kept gn (Or.inr (by simp [Value.ownBlock];omega))
   replace sx:=sn'
   have un:Out [b] _ _:=Out.of_grown gn
   replace ux:=ux.trans un
   clear un gn sn'
   refine ⟨_,rfl,⟨⟨_,ux.mono hsub⟩,rfl⟩,?_⟩
   simp only [Act.put,List.getElem_toArray,List.getElem_cons_succ,List.getElem_cons_zero,List.setIfInBounds_toArray,List.set_cons_zero,List.set_cons_succ]
   refine call_at 9 (some 21) 65 #[.pointer (some ⟨b,0,none⟩),.int .i64 ((crs.length:Int) + 1)] 5 (by kernel_rfl) (by kernel_rfl) (by kernel_rfl) (by kernel_rfl) (by kernel_rfl) ?_
   refine (next_any B b (2601) ((crs.length:Int) + 1) _ sx (by omega) (by omega)).mono ?_
   rintro e x16 ⟨rd,rfl,_,sn',gn⟩
   replace hp2:=hp2.kept gn (Or.inr (by simp [Value.ownBlock];omega))
   replace sx:=sn'
   have un:Out [b] _ _:=Out.of_grown gn
   replace ux:=ux.trans un
   clear un gn sn'
   refine ⟨_,rfl,⟨⟨_,ux.mono hsub⟩,rfl⟩,?_⟩
   simp only [Act.put,List.getElem_toArray,List.getElem_cons_succ,List.getElem_cons_zero,List.setIfInBounds_toArray,List.set_cons_zero,List.set_cons_succ]
   refine call_at 12 (some 24) 66 #[.pointer (some ⟨b,0,none⟩),.slice (some ⟨g2,0,none⟩) 5 5] 4 (by kernel_rfl) (by kernel_rfl) (by kernel_rfl) (by kernel_rfl) (by kernel_rfl) ?_
   refine (pick_any B b (2602) g2 _ [7,3,5,6,1] _ sx (by omega) hp2 (by simp) (by simp) (by simp [Value.ownBlock];omega)).mono ?_
   rintro e x17 ⟨md,rfl,_,sn',gn⟩
   clear hp2
   replace sx:=sn'
   have un:Out [b] _ _:=Out.of_grown gn
   replace ux:=ux.trans un
   clear un gn sn'
   refine ⟨_,rfl,⟨⟨_,ux.mono hsub⟩,rfl⟩,?_⟩
   simp only [Act.put,List.getElem_toArray,List.getElem_cons_succ,List.getElem_cons_zero,List.setIfInBounds_toArray,List.set_cons_zero,List.set_cons_succ]
   refine one_at 13 _ 3 (by kernel_rfl) rfl (by kernel_rfl) ?_
   have Rx:=R0.outs (ux.mono hs1) (fun hk=>by simp only [List.mem_singleton] at hk;omega)
   have Rr:=Rx.row #[.bool ch,.slice c1 cbs.length c4,.slice c2 crs.length c5,.slice c3 cds.length c6]
   have hsr:(Tryz.prog.info? 28).map (·.size)=some (#[.bool ch,.slice c1 cbs.length c4,.slice c2 crs.length c5,.slice c3 cds.length c6]:Array Value).size:=sz_inst
   have uz:Out [b,w.heap.size] X (x17.setRow w.heap.size #[.bool ch,.slice c1 cbs.length c4,.slice c2 crs.length c5,.slice c3 cds.length c6]):=(ux.mono hsub).trans ((out_row x17 w.heap.size #[.bool ch,.slice c1 cbs.length c4,.slice c2 crs.length c5,.slice c3 cds.length c6]).mono (fun k hk=>by simp only [List.mem_singleton] at hk;simp [hk]))
   have oz:=instK.own_out oq uz (fun k hk hk' => by simp only [List.mem_cons,List.not_mem_nil,or_false] at hk';have:=low k hk;omega)
   refine st_row (by kernel_rfl) 28 _ _ rfl _ #[.bool ch,.slice c1 cbs.length c4,.slice c2 crs.length c5,.slice c3 cds.length c6] rfl rfl 28 _ Rx hsr rfl (by simp [Value.oneCell']) ?_
   refine ThenGo.to ⟨⟨⟨_,uz⟩,rfl⟩,?_⟩
   try simp only [Act.put,List.getElem_toArray,List.getElem_cons_succ,List.getElem_cons_zero,List.setIfInBounds_toArray,List.set_cons_zero,List.set_cons_succ]
   refine seg_range [(14,3)] 0 (by kernel_rfl) (by kernel_rfl) (by kernel_rfl) (by kernel_rfl) (by kernel_rfl) ⟨⟨_,uz⟩,rfl⟩ ?_
   simp only [pickR,List.toList_toArray,List.flatMap_cons,List.flatMap_nil,List.drop_succ_cons,List.drop_zero,List.take_succ_cons,List.take_zero,List.cons_append,List.nil_append,List.append_nil]
   repeat go_big_quiet_step (fail)
   refine wpQuiet_nil ?_
   refine text_end (by kernel_rfl) ?_
   refine ⟨rfl,_,⟨⟨nd,rd,md,g1,g2,rfl⟩,oz,Rr,uz⟩,?_⟩
   simp only [putAll,Act.put,List.getElem_toArray,List.getElem_cons_succ,List.getElem_cons_zero,List.setIfInBounds_toArray,List.set_cons_zero,List.set_cons_succ]
   try rfl
 rintro vs X6 ⟨⟨n1,r1,m1,ga,gb,rfl⟩,ow,Rr,uX⟩
 simp only [putAll,Act.put,List.setIfInBounds_toArray,List.set_cons_zero,List.set_cons_succ]
 have hBz:Below w.heap.size w X6:=Out.keep hb0 uX hb0.size (fun k hk=>by simp only [List.mem_cons,List.not_mem_nil,or_false] at hk;omega)
 have HQ:Hid (InstQ.n (⟨ch,.slice c1 cbs.length c4,cbs,.slice c2 crs.length c5,crs,.slice c3 cds.length c6,cds⟩:InstQ)≤1000∧instK.own X6 (⟨ch,.slice c1 cbs.length c4,cbs,.slice c2 crs.length c5,crs,.slice c3 cds.length c6,cds⟩:InstQ)∧(instK.foot (⟨ch,.slice c1 cbs.length c4,cbs,.slice c2 crs.length c5,crs,.slice c3 cds.length c6,cds⟩:InstQ)).Nodup∧∀ k∈instK.foot (⟨ch,.slice c1 cbs.length c4,cbs,.slice c2 crs.length c5,crs,.slice c3 cds.length c6,cds⟩:InstQ),w.heap.size≤k):=⟨hn,ow,nq,fun k hk=>by have:=low k hk;omega⟩
 have q0:=Rr.cell 0 _ rfl
 have q1:=Rr.cell 1 _ rfl
 have q2:=Rr.cell 2 _ rfl
 have q3:=Rr.cell 3 _ rfl
 clear ow uX k0 k1 k2 k3 Bx R0 hS oq nq low hn
 go_wp2
 exact bodyPost_ret (v:=.tuple #[.agg #[.bool ch,.slice c1 cbs.length c4,.slice c2 crs.length c5,.slice c3 cds.length c6],.int .i64 n1,.int .i64 r1,.int .i64 m1]) (by simp [results,Tryz.results13,go_sem,q0,q1,q2,q3]) rfl ⟨(⟨ch,.slice c1 cbs.length c4,cbs,.slice c2 crs.length c5,crs,.slice c3 cds.length c6,cds⟩:InstQ),n1,r1,m1,rfl,HQ.out.1,HQ.out.2.1,HQ.out.2.2.1,HQ.out.2.2.2,hBz⟩

end Go.Proofs.YtpjmlidbligcbaaGreatDoor
namespace Go.Proofs.YtpjmlidbligcbaaGreatDoor
open Go.RowKit
open Go.BigFrame
set_option maxRecDepth 100000
set_option maxHeartbeats 1000000 in
theorem later_any (B:Nat) (a:Option Addr) (cap:Nat) (zs:List Int) (w:World) (hB:B≤w.heap.size) (hl:zs.length≤1048576) (hu:∀ i,0≤zs.getD i 0∧zs.getD i 0≤255)
  (h:∀ i,i < zs.length→∃ b' off,a=some ⟨b',off,none⟩∧b' < B∧w.cell? ⟨b',off + i,none⟩=some (.int .u8 (zs.getD i 0))) :
  Calls Tryz.prog 74 #[.slice a zs.length cap,.int .i64 5] w fun e w' => e=.returned (.pointer (some ⟨w.heap.size,0,none⟩))∧Src B w' w.heap.size 40∧Below w.heap.size w w' := by
 go_enter Tryz.func74,Tryz.ntmps74
 go_wp2
 go_ret
 refine ⟨rfl,⟨a,zs,cap,40,hB,by simp,by simp,by simp,by simp,Nat.le_refl _,hl,hu,?_⟩,by go_grown⟩
 intro i hi
 obtain ⟨b',off,e1,e2,e3⟩:=h i hi
 refine ⟨b',off,e1,e2,?_⟩
 rw [World.cell?_of_block (w:=w) (a:=⟨b',off + i,none⟩) (Below.heap_alloc w _ b' (by omega))]
 exact e3

set_option maxRecDepth 100000 in
set_option maxHeartbeats 8000000 in
theorem drawGoOn_any (a:Option Addr) (cap:Nat) (zs:List Int) (w:World) (h:Row .u8 w a zs) (hu:∀ i,0≤zs.getD i 0∧zs.getD i 0≤255) (hl:zs.length≤1048576) :
  Calls Tryz.prog 15 #[.slice a zs.length cap] w fun e w' => ∃ (q:InstQ) (n1 r1 m1 cn:Int),e=.returned (.tuple #[.agg #[.bool q.has,q.vb,q.vr,q.vd],.int .i64 n1,.int .i64 r1,.int .i64 m1,.int .i64 cn])∧q.n≤1000∧instK.own w' q∧(∀ k∈instK.foot q,w.heap.size≤k)∧Below w.heap.size w w' := by
 have hb0:Below w.heap.size w (w.alloc (.cells #[.bool false,.slice none 0 0,.slice none 0 0,.slice none 0 0] 28)):=by go_grown
 have R0:=Blk.new w 28 #[.bool false,.slice none 0 0,.slice none 0 0,.slice none 0 0]
 have hW1:w.heap.size < (w.alloc (.cells #[.bool false,.slice none 0 0,.slice none 0 0,.slice none 0 0] 28)).heap.size:=by simp
 have hdp:=fun (W:World) (hb:Below w.heap.size w W)=>drawPropose_any a cap zs W (h.below hb) hu hl
 go_enter Tryz.func15,Tryz.ntmps15
 go_wp2_with fail
 generalize w.alloc (.cells #[.bool false,.slice none 0 0,.slice none 0 0,.slice none 0 0] 28)=W at *
 refine (hdp W hb0).mono ?_
 rintro e x1 ⟨q,n1,r1,m1,rfl,hn,oq,nq,gq,hb1⟩
 have hm:=instK.own_lt oq
 have hx1:=hb1.size
 replace R0:=R0.below hb1
 replace hb0:=hb0.trans (hb1.mono hb0.size)
 clear hb1 hdp nq
 obtain ⟨ch,cb,cbs,cr,crs,cd,cds⟩:=q
 obtain ⟨c1,c4,rfl⟩:∃ a c,cb=.slice a cbs.length c:=oq.1.shape
 obtain ⟨c2,c5,rfl⟩:∃ a c,cr=.slice a crs.length c:=oq.2.1.shape
 obtain ⟨c3,c6,rfl⟩:∃ a c,cd=.slice a cds.length c:=oq.2.2.shape
 have hbA:Below x1.heap.size x1 (x1.alloc (.cells #[.bool ch,.slice c1 cbs.length c4,.slice c2 crs.length c5,.slice c3 cds.length c6] 28)):=by go_grown
 have Bx:=Blk.new x1 28 #[.bool ch,.slice c1 cbs.length c4,.slice c2 crs.length c5,.slice c3 cds.length c6]
 replace R0:=R0.below hbA
 replace hb0:=hb0.trans (hbA.mono hb0.size)
 replace oq:=instK.own_out (F:=[]) oq (Out.of_below hbA) (fun _ _=>by simp)
 have low:∀ k∈instK.foot (⟨ch,.slice c1 cbs.length c4,cbs,.slice c2 crs.length c5,crs,.slice c3 cds.length c6,cds⟩:InstQ),w.heap.size < k:=fun k hk=>by have:=gq k hk;omega
 clear hbA gq hm
 go_wp2_with fail
 generalize hgx:x1.heap.size=g at *
 have hgw:w.heap.size < g:=by omega
 generalize x1.alloc (.cells #[.bool ch,.slice c1 cbs.length c4,.slice c2 crs.length c5,.slice c3 cds.length c6] 28)=X at *
 clear hgx
 have hX0:=hb0.size
 have k0:=lato_cell (F:=[w.heap.size]) (Bx.cell 0 _ rfl) (by simp only [List.mem_singleton];omega)
 have k1:=lato_cell (F:=[w.heap.size]) (Bx.cell 1 _ rfl) (by simp only [List.mem_singleton];omega)
 have k2:=lato_cell (F:=[w.heap.size]) (Bx.cell 2 _ rfl) (by simp only [List.mem_singleton];omega)
 have k3:=lato_cell (F:=[w.heap.size]) (Bx.cell 3 _ rfl) (by simp only [List.mem_singleton];omega)
 refine region_vals [some 18,some 19,some 20,some 21,some 22,some 23,some 24,some 25,some 3,some 4,some 5,some 6] (fun vs w' => (∃ (ba gp:Nat) (cn:Int),vs=[.agg #[.bool ch,.slice c1 cbs.length c4,.slice c2 crs.length c5,.slice c3 cds.length c6],.int .i64 n1,.int .i64 r1,.int .i64 m1,.slice a zs.length cap,.pointer (some ⟨ba,0,none⟩),.slice (some ⟨gp,0,none⟩) 3 3,.int .i64 cn,.int .i64 n1,.int .i64 r1,.int .i64 m1,.int .i64 cn])∧instK.own w' (⟨ch,.slice c1 cbs.length c4,cbs,.slice c2 crs.length c5,crs,.slice c3 cds.length c6,cds⟩:InstQ)∧Blk w' w.heap.size 28 #[.bool ch,.slice c1 cbs.length c4,.slice c2 crs.length c5,.slice c3 cds.length c6]∧Out [w.heap.size] X w') ?_ ?_
 ·have hW:Below X.heap.size X X.drew:=(Below.refl _ _).drew
  have hnn:Nonempty (LatO [w.heap.size] X):=⟨⟨X,Out.refl _ _⟩⟩
  have hnw:∀ w',Below X.heap.size X w' → ∃ u:LatO [w.heap.size] X,w' = u.val:=fun w' hw' => ⟨⟨w',Out.of_below hw'⟩,rfl⟩
  refine text_begin (S:=fun w' => ∃ u:LatO [w.heap.size] X,w' = u.val) (by kernel_rfl) ?_
  refine seg_range [(0,5)] 8 (by kernel_rfl) (by kernel_rfl) (by kernel_rfl) (by kernel_rfl) (by kernel_rfl) (hnw _ hW) ?_
  simp only [pickR,List.toList_toArray,List.flatMap_cons,List.flatMap_nil,List.drop_succ_cons,List.drop_zero,List.take_succ_cons,List.take_zero,List.cons_append,List.nil_append,List.append_nil]
  repeat go_big_quiet_step (fail)
  refine wpQuiet_nil ?_
  clear k0 k1 k2 k3
  generalize X.drew=wd at hW ⊢
  refine two_at 5 6 7 (by kernel_rfl) (by kernel_rfl) ?_ ?_
  ·skip
   refine op_call 5 (some 23) 74 #[.slice a zs.length cap,.int .i64 5] (by kernel_rfl) (by kernel_rfl) (by kernel_rfl) ?_
   refine (later_any w.heap.size a cap zs wd (by have:=hW.size;omega) hl hu (fun i hi=>by
    obtain ⟨b',off,e1,e2,e3⟩:=h i hi
    exact ⟨b',off,e1,e2,cellB e3 (hb0.trans (hW.mono hb0.size))⟩)).mono ?_
   rintro e x7 ⟨rfl,sx,hbl⟩
   have hb2:X.heap.size≤wd.heap.size:=hW.size
   generalize hGb:wd.heap.size=b2 at *
   replace hW:=hW.trans (hbl.mono (by omega))
   clear hbl hGb
   refine ⟨_,rfl,hnw _ hW,?_⟩
   simp only [Act.put,List.getElem_toArray,List.getElem_cons_succ,List.getElem_cons_zero,List.setIfInBounds_toArray,List.set_cons_zero,List.set_cons_succ]
   refine one_at 6 _ 6 (by kernel_rfl) rfl (by kernel_rfl) ?_
   have hpk:=World.ownsRow_lit (e:=2) (size:=1) x7 #[.int .i64 0,.int .i64 1,.int .i64 2] 3 (Nat.le_refl _) (by decide) rfl
   have hba:Below x7.heap.size x7 (x7.alloc (.cells #[.int .i64 0,.int .i64 1,.int .i64 2] 2)):=by go_grown
   have hg7:b2 < x7.heap.size:=sx.lt.2
   replace sx:=sx.below hba
   replace hW:=hW.trans (hba.mono hW.size)
   clear hba
   go_wp2
   refine ThenGo.to ⟨hnw _ hW,?_⟩
   generalize hGp:x7.heap.size=gp at *
   generalize x7.alloc (.cells #[.int .i64 0,.int .i64 1,.int .i64 2] 2)=Y at *
   clear hGp
   refine call_at 7 (some 25) 66 #[.pointer (some ⟨b2,0,none⟩),.slice (some ⟨gp,0,none⟩) 3 3] 5 (by kernel_rfl) (by kernel_rfl) (by kernel_rfl) (by kernel_rfl) (by kernel_rfl) ?_
   refine (pick_any w.heap.size b2 40 gp _ [0,1,2] _ sx (by omega) hpk (by simp) (by simp) (by simp [Value.ownBlock];omega)).mono ?_
   rintro e x9 ⟨cn,rfl,_,_,gn⟩
   have un:Out [b2] _ _:=Out.of_grown gn
   replace hW:=Out.keep hW un hW.size (fun k hk=>by simp only [List.mem_singleton] at hk;omega)
   clear un gn hpk sx
   refine ⟨_,rfl,hnw _ hW,?_⟩
   simp only [Act.put,List.getElem_toArray,List.getElem_cons_succ,List.getElem_cons_zero,List.setIfInBounds_toArray,List.set_cons_zero,List.set_cons_succ]
   refine one_at 8 _ 4 (by kernel_rfl) rfl (by kernel_rfl) ?_
   have Rx:=R0.below hW
   have Rr:=Rx.row #[.bool ch,.slice c1 cbs.length c4,.slice c2 crs.length c5,.slice c3 cds.length c6]
   have hsr:(Tryz.prog.info? 28).map (·.size)=some (#[.bool ch,.slice c1 cbs.length c4,.slice c2 crs.length c5,.slice c3 cds.length c6]:Array Value).size:=sz_inst
   have uz:Out [w.heap.size] X (x9.setRow w.heap.size #[.bool ch,.slice c1 cbs.length c4,.slice c2 crs.length c5,.slice c3 cds.length c6]):=(Out.of_below hW).trans (out_row x9 w.heap.size #[.bool ch,.slice c1 cbs.length c4,.slice c2 crs.length c5,.slice c3 cds.length c6])
   have oz:=instK.own_out oq uz (fun k hk hk' => by simp only [List.mem_singleton] at hk';have:=low k hk;omega)
   refine st_row (by kernel_rfl) 28 _ _ rfl _ #[.bool ch,.slice c1 cbs.length c4,.slice c2 crs.length c5,.slice c3 cds.length c6] rfl rfl 28 _ Rx hsr rfl (by simp [Value.oneCell']) ?_
   refine ThenGo.to ⟨⟨⟨_,uz⟩,rfl⟩,?_⟩
   try simp only [Act.put,List.getElem_toArray,List.getElem_cons_succ,List.getElem_cons_zero,List.setIfInBounds_toArray,List.set_cons_zero,List.set_cons_succ]
   refine seg_range [(9,4)] 0 (by kernel_rfl) (by kernel_rfl) (by kernel_rfl) (by kernel_rfl) (by kernel_rfl) ⟨⟨_,uz⟩,rfl⟩ ?_
   simp only [pickR,List.toList_toArray,List.flatMap_cons,List.flatMap_nil,List.drop_succ_cons,List.drop_zero,List.take_succ_cons,List.take_zero,List.cons_append,List.nil_append,List.append_nil]
   repeat go_big_quiet_step (fail)
   refine wpQuiet_nil ?_
   refine text_end (by kernel_rfl) ?_
   refine ⟨rfl,_,⟨⟨b2,gp,cn,rfl⟩,oz,Rr,uz⟩,?_⟩
   simp only [putAll,Act.put,List.getElem_toArray,List.getElem_cons_succ,List.getElem_cons_zero,List.setIfInBounds_toArray,List.set_cons_zero,List.set_cons_succ]
   try rfl
  ·skip
   refine op_one 6 _ rfl ?_
   have hpk:=World.ownsRow_lit (e:=2) (size:=1) wd #[.int .i64 0,.int .i64 1,.int .i64 2] 3 (Nat.le_refl _) (by decide) rfl
   have hba:Below wd.heap.size wd (wd.alloc (.cells #[.int .i64 0,.int .i64 1,.int .i64 2] 2)):=by go_grown
   have hgp0:X.heap.size≤wd.heap.size:=hW.size
   replace hW:=hW.trans (hba.mono hW.size)
   have hgp1:wd.heap.size < (wd.alloc (.cells #[.int .i64 0,.int .i64 1,.int .i64 2] 2)).heap.size:=by simp
   clear hba
   go_wp2
   refine ThenGo.to ⟨hnw _ hW,?_⟩
   generalize hGp:wd.heap.size=gp at *
   generalize wd.alloc (.cells #[.int .i64 0,.int .i64 1,.int .i64 2] 2)=Y at *
   clear hGp
   refine call_at 5 (some 23) 74 #[.slice a zs.length cap,.int .i64 5] 6 (by kernel_rfl) (by kernel_rfl) (by kernel_rfl) (by kernel_rfl) (by kernel_rfl) ?_
   refine (later_any w.heap.size a cap zs Y (by have:=hW.size;omega) hl hu (fun i hi=>by
    obtain ⟨b',off,e1,e2,e3⟩:=h i hi
    exact ⟨b',off,e1,e2,cellB e3 (hb0.trans (hW.mono hb0.size))⟩)).mono ?_
   rintro e x7 ⟨rfl,sx,hbl⟩
   have hb2:X.heap.size≤Y.heap.size:=hW.size
   replace hpk:=own_below hpk hbl
   generalize hGb:Y.heap.size=b2 at *
   replace hW:=hW.trans (hbl.mono (by omega))
   clear hbl hGb
   refine ⟨_,rfl,hnw _ hW,?_⟩
   simp only [Act.put,List.getElem_toArray,List.getElem_cons_succ,List.getElem_cons_zero,List.setIfInBounds_toArray,List.set_cons_zero,List.set_cons_succ]
   refine call_at 7 (some 25) 66 #[.pointer (some ⟨b2,0,none⟩),.slice (some ⟨gp,0,none⟩) 3 3] 5 (by kernel_rfl) (by kernel_rfl) (by kernel_rfl) (by kernel_rfl) (by kernel_rfl) ?_
   refine (pick_any w.heap.size b2 40 gp _ [0,1,2] _ sx (by omega) hpk (by simp) (by simp) (by simp [Value.ownBlock];omega)).mono ?_
   rintro e x9 ⟨cn,rfl,_,_,gn⟩
   have un:Out [b2] _ _:=Out.of_grown gn
   replace hW:=Out.keep hW un hW.size (fun k hk=>by simp only [List.mem_singleton] at hk;omega)
   clear un gn hpk sx
   refine ⟨_,rfl,hnw _ hW,?_⟩
   simp only [Act.put,List.getElem_toArray,List.getElem_cons_succ,List.getElem_cons_zero,List.setIfInBounds_toArray,List.set_cons_zero,List.set_cons_succ]
   refine one_at 8 _ 4 (by kernel_rfl) rfl (by kernel_rfl) ?_
   have Rx:=R0.below hW
   have Rr:=Rx.row #[.bool ch,.slice c1 cbs.length c4,.slice c2 crs.length c5,.slice c3 cds.length c6]
   have hsr:(Tryz.prog.info? 28).map (·.size)=some (#[.bool ch,.slice c1 cbs.length c4,.slice c2 crs.length c5,.slice c3 cds.length c6]:Array Value).size:=sz_inst
   have uz:Out [w.heap.size] X (x9.setRow w.heap.size #[.bool ch,.slice c1 cbs.length c4,.slice c2 crs.length c5,.slice c3 cds.length c6]):=(Out.of_below hW).trans (out_row x9 w.heap.size #[.bool ch,.slice c1 cbs.length c4,.slice c2 crs.length c5,.slice c3 cds.length c6])
   have oz:=instK.own_out oq uz (fun k hk hk' => by simp only [List.mem_singleton] at hk';have:=low k hk;omega)
   refine st_row (by kernel_rfl) 28 _ _ rfl _ #[.bool ch,.slice c1 cbs.length c4,.slice c2 crs.length c5,.slice c3 cds.length c6] rfl rfl 28 _ Rx hsr rfl (by simp [Value.oneCell']) ?_
   refine ThenGo.to ⟨⟨⟨_,uz⟩,rfl⟩,?_⟩
   try simp only [Act.put,List.getElem_toArray,List.getElem_cons_succ,List.getElem_cons_zero,List.setIfInBounds_toArray,List.set_cons_zero,List.set_cons_succ]
   refine seg_range [(9,4)] 0 (by kernel_rfl) (by kernel_rfl) (by kernel_rfl) (by kernel_rfl) (by kernel_rfl) ⟨⟨_,uz⟩,rfl⟩ ?_
   simp only [pickR,List.toList_toArray,List.flatMap_cons,List.flatMap_nil,List.drop_succ_cons,List.drop_zero,List.take_succ_cons,List.take_zero,List.cons_append,List.nil_append,List.append_nil]
   repeat go_big_quiet_step (fail)
   refine wpQuiet_nil ?_
   refine text_end (by kernel_rfl) ?_
   refine ⟨rfl,_,⟨⟨b2,gp,cn,rfl⟩,oz,Rr,uz⟩,?_⟩
   simp only [putAll,Act.put,List.getElem_toArray,List.getElem_cons_succ,List.getElem_cons_zero,List.setIfInBounds_toArray,List.set_cons_zero,List.set_cons_succ]
   try rfl
 rintro vs X6 ⟨⟨ba,gp,cn,rfl⟩,ow,Rr,uX⟩
 simp only [putAll,Act.put,List.setIfInBounds_toArray,List.set_cons_zero,List.set_cons_succ]
 have hBz:Below w.heap.size w X6:=Out.keep hb0 uX hb0.size (fun k hk=>by simp only [List.mem_singleton] at hk;omega)
 have HQ:Hid (InstQ.n (⟨ch,.slice c1 cbs.length c4,cbs,.slice c2 crs.length c5,crs,.slice c3 cds.length c6,cds⟩:InstQ)≤1000∧instK.own X6 (⟨ch,.slice c1 cbs.length c4,cbs,.slice c2 crs.length c5,crs,.slice c3 cds.length c6,cds⟩:InstQ)∧∀ k∈instK.foot (⟨ch,.slice c1 cbs.length c4,cbs,.slice c2 crs.length c5,crs,.slice c3 cds.length c6,cds⟩:InstQ),w.heap.size≤k):=⟨hn,ow,fun k hk=>by have:=low k hk;omega⟩
 have q0:=Rr.cell 0 _ rfl
 have q1:=Rr.cell 1 _ rfl
 have q2:=Rr.cell 2 _ rfl
 have q3:=Rr.cell 3 _ rfl
 clear ow uX k0 k1 k2 k3 Bx R0 oq low hn
 go_wp2
 exact bodyPost_ret (v:=.tuple #[.agg #[.bool ch,.slice c1 cbs.length c4,.slice c2 crs.length c5,.slice c3 cds.length c6],.int .i64 n1,.int .i64 r1,.int .i64 m1,.int .i64 cn]) (by simp [results,Tryz.results15,go_sem,q0,q1,q2,q3]) rfl ⟨(⟨ch,.slice c1 cbs.length c4,cbs,.slice c2 crs.length c5,crs,.slice c3 cds.length c6,cds⟩:InstQ),n1,r1,m1,cn,rfl,HQ.out.1,HQ.out.2.1,HQ.out.2.2,hBz⟩

end Go.Proofs.YtpjmlidbligcbaaGreatDoor
namespace Go.Proofs.YtpjmlidbligcbaaGreatDoor
open Go.RowKit
set_option maxRecDepth 100000
set_option maxHeartbeats 1000000 in
theorem lwBig_any (a:Option Addr) (n cap:Nat) (w:World) (hm:n≤9223372036854775807) :
  Calls Tryz.prog 8 #[.slice a n cap] w fun e w' => e=.returned (.bool (decide (1048576 < (n:Int))))∧w' = w:=by
 go_enter Tryz.func8,Tryz.ntmps8
 go_wp2
 go_ret
 exact ⟨rfl,rfl⟩

end Go.Proofs.YtpjmlidbligcbaaGreatDoor
namespace Go.Proofs.YtpjmlidbligcbaaGreatDoor
open Go.RowKit
open Go.BigFrame
set_option maxRecDepth 100000
theorem TxnRow.out {base:Nat} {w w' : World} {v:Value} {ps:List TxnP} {F:List Nat} (h:TxnRow base w v ps) (ho:Out F w w') (hF:∀ k∈F,k < base):TxnRow base w' v ps:=
 ⟨own_outs h.1 ho (fun k hk hk' => by have h1:=(own_zero h.1).2 k hk;have h2:=hF k hk';omega),fun p hp=>⟨own_outs (h.2.1 p hp).1 ho (fun k hk hk' => by have h1:=(own_zero (h.2.1 p hp).1).2 k hk;have h2:=hF k hk';omega),(h.2.1 p hp).2⟩,h.2.2⟩

end Go.Proofs.YtpjmlidbligcbaaGreatDoor
namespace Go.Proofs.YtpjmlidbligcbaaGreatDoor
open Go.RowKit Go.Deep Go.ChangeShapes Go.WideShapes
set_option maxRecDepth 100000
end Go.Proofs.YtpjmlidbligcbaaGreatDoor
namespace Go.Proofs.YtpjmlidbligcbaaGreatDoor
open Go.RowKit Go.Deep Go.ChangeShapes Go.WideShapes
set_option maxRecDepth 100000
end Go.Proofs.YtpjmlidbligcbaaGreatDoor
namespace Go.Proofs.YtpjmlidbligcbaaGreatDoor
open Go.RowKit Go.Deep Go.ChangeShapes Go.WideShapes
set_option maxRecDepth 100000
end Go.Proofs.YtpjmlidbligcbaaGreatDoor
namespace Go.Proofs.YtpjmlidbligcbaaGreatDoor
open Go.RowKit Go.ChangeShapes Go.WideShapes
set_option maxRecDepth 100000
theorem gRul : Tryz.prog.globalNamed "loop.example/g00631/impl.rules" = some 1 := by kernel_rfl

theorem tRul:(Tryz.prog.globals[1]?).map (·.type)=some 240:=by kernel_rfl

theorem cRule:Tryz.prog.cellsOf 185=7:=by kernel_rfl

theorem cCh:Tryz.prog.cellsOf 32=4:=by kernel_rfl

theorem cI:Tryz.prog.cellsOf 2=1:=by kernel_rfl

theorem cB:Tryz.prog.cellsOf 4=1:=by kernel_rfl

section
variable {H:Type} {enc:TypeId × Value→H} {w:World} {base:Nat} {spare:Nat→Bool} {held:Bool}
theorem choice_cells {fuel:Nat} {cs:List Value} {c v:Int} {d k:Bool} {q:List MemPlace} (h:DataW.trod enc Tryz.prog w base spare held fuel 32 cs=some (.agg [.lit (.int .i64 c),.lit (.bool d),.lit (.bool k),.lit (.int .i64 v)],q)):cs=[.int .i64 c,.bool d,.bool k,.int .i64 v]:=by
 obtain ⟨y0,y1,y2,y3,n,hx,hl,h0,h1,h2,h3⟩:=Go.Joins.trod_struct4 Tryz.underlying32 h
 rw [cCh] at hl
 simp only [Prod.mk.injEq,DataW.agg.injEq,List.cons.injEq,and_true] at hx
 obtain ⟨⟨x0,x1,x2,x3⟩,_⟩:=hx
 match cs,hl with
 | [c0,c1,c2,c3],_=>
  simp only [cI,cB,List.drop_zero,List.drop_succ_cons,List.take_succ_cons,List.take_zero] at h0 h1 h2 h3
  obtain ⟨n0,e0,g0,_⟩:=DataW.trod_int Tryz.underlying2 h0
  obtain ⟨n1,e1,g1⟩:=DataW.trod_bool Tryz.underlying4 h1
  obtain ⟨n2,e2,g2⟩:=DataW.trod_bool Tryz.underlying4 h2
  obtain ⟨n3,e3,g3,_⟩:=DataW.trod_int Tryz.underlying2 h3
  simp only [List.cons.injEq,and_true] at e0 e1 e2 e3
  rw [g0] at x0
  rw [g1] at x1
  rw [g2] at x2
  rw [g3] at x3
  simp at x0 x1 x2 x3
  rw [e0,e1,e2,e3,x0,x1,x2,x3]

theorem rule_cells {fuel:Nat} {cs:List Value} {z o p c v:Int} {d k:Bool} {q:List MemPlace} (h:DataW.trod enc Tryz.prog w base spare held fuel 185 cs=some (.agg [.lit (.int .i64 z),.lit (.int .i64 o),.lit (.int .i64 p),.agg [.lit (.int .i64 c),.lit (.bool d),.lit (.bool k),.lit (.int .i64 v)]],q)) :
  cs=[.int .i64 z,.int .i64 o,.int .i64 p,.int .i64 c,.bool d,.bool k,.int .i64 v]:=by
 obtain ⟨y0,y1,y2,y3,n,hx,hl,h0,h1,h2,h3⟩:=Go.Joins.trod_struct4 Tryz.underlying185 h
 rw [cRule] at hl
 simp only [Prod.mk.injEq,DataW.agg.injEq,List.cons.injEq,and_true] at hx
 obtain ⟨⟨x0,x1,x2,x3⟩,_⟩:=hx
 match cs,hl with
 | [c0,c1,c2,c3,c4,c5,c6],_=>
  simp only [cI,cCh,List.drop_zero,List.drop_succ_cons,List.take_succ_cons,List.take_zero] at h0 h1 h2 h3
  obtain ⟨n0,e0,g0,_⟩:=DataW.trod_int Tryz.underlying2 h0
  obtain ⟨n1,e1,g1,_⟩:=DataW.trod_int Tryz.underlying2 h1
  obtain ⟨n2,e2,g2,_⟩:=DataW.trod_int Tryz.underlying2 h2
  obtain ⟨y30,y31⟩:=y3
  dsimp only at x3
  rw [← x3] at h3
  have e3:=choice_cells h3
  simp only [List.cons.injEq,and_true] at e0 e1 e2 e3
  rw [g0] at x0
  rw [g1] at x1
  rw [g2] at x2
  simp at x0 x1 x2
  obtain ⟨e3,e4,e5,e6⟩:=e3
  rw [e0,e1,e2,e3,e4,e5,e6,x0,x1,x2]

end
end Go.Proofs.YtpjmlidbligcbaaGreatDoor
namespace Go.Proofs.YtpjmlidbligcbaaGreatDoor
open Go.RowKit
open Go.BigFrame
set_option maxRecDepth 100000
def slA' : Value→Option Addr
 | .slice a _ _=>a
 | _=>none

def slK' : Value→Nat
 | .slice _ _ k=>k
 | _=>0

def TxnQ.p' (q:TxnQ):TxnP:=⟨q.e,slA' q.va,slK' q.va⟩

end Go.Proofs.YtpjmlidbligcbaaGreatDoor
namespace Go.Proofs.YtpjmlidbligcbaaGreatDoor
open Go.RowKit
set_option maxRecDepth 100000
section
variable {P:Program} {ops:Array Oper} {Q:Exit→Act→World→Prop} {S:World→Prop}
def CutQ (a:Act) (lo n:Nat) (v:Value) (R:World→Prop) (e:Exit) (a' : Act) (w' : World):Prop:=
 e=.normal∧a'.defers=a.defers∧a'.tmps.toList.take lo=a.tmps.toList.take lo∧a'.tmps.toList.drop (lo + n)=v :: a.tmps.toList.drop (lo + n + 1)∧lo + n≤a'.tmps.toList.length∧R w'

theorem CutQ.mk {a:Act} {lo n:Nat} {v:Value} {R:World→Prop} {a' : Act} {w' : World} (h1:a'.defers=a.defers) (h2:a'.tmps.toList.take lo=a.tmps.toList.take lo) (h3:a'.tmps.toList.drop (lo + n)=v :: a.tmps.toList.drop (lo + n + 1)) (h4:lo + n≤a'.tmps.toList.length) (h5:R w'):CutQ a lo n v R .normal a' w' := ⟨rfl,h1,h2,h3,h4,h5⟩

end
end Go.Proofs.YtpjmlidbligcbaaGreatDoor
namespace Go.Proofs.YtpjmlidbligcbaaGreatDoor
open Go.RowKit Go.ChangeShapes Go.WideShapes
set_option maxRecDepth 100000
theorem gOpn : Tryz.prog.globalNamed "loop.example/g00631/impl.openRow" = some 0 := by kernel_rfl

theorem tOpn:(Tryz.prog.globals[0]?).map (·.type)=some 97:=by kernel_rfl

theorem rul_of_two {W : World} (h : laidMetH Tryz.prog [("loop.example/g00631/impl.rules", Rows.laid_loop_example_g00631_impl_rules), ("loop.example/g00631/impl.openRow", Rows.laid_loop_example_g00631_impl_openRow)] W) : Rul W := by
 rw [MakeChecks.laidMetH_plain _ _ _ (by kernel_rfl)] at h
 obtain ⟨g,t,cs,fuel,p,hg,ht,hvar,hd⟩:=Lib.laidMet.reads h (List.mem_cons_self ..)
 obtain rfl:=Option.some.inj (gRul.symm.trans hg)
 obtain rfl:=Option.some.inj (tRul.symm.trans ht)
 unfold Rows.laid_loop_example_g00631_impl_rules at hd
 have e:∀ i,i < 5→∃ fuel' d q,_∧_:=fun i hi=>Lib.array_elem Tryz.underlying240 hd i hi
 rw [cRule] at e
 obtain ⟨f0,d0,q0,r0,s0⟩:=e 0 (by omega)
 obtain ⟨f1,d1,q1,r1,s1⟩:=e 1 (by omega)
 obtain ⟨f2,d2,q2,r2,s2⟩:=e 2 (by omega)
 obtain ⟨f3,d3,q3,r3,s3⟩:=e 3 (by omega)
 obtain ⟨f4,d4,q4,r4,s4⟩:=e 4 (by omega)
 simp only [List.getElem?_cons_zero,List.getElem?_cons_succ,Option.some.injEq] at r0 r1 r2 r3 r4
 subst r0 r1 r2 r3 r4
 have t0:=rule_cells s0
 have t1:=rule_cells s1
 have t2:=rule_cells s2
 have t3:=rule_cells s3
 have t4:=rule_cells s4
 have hall:cs.toList.take 35=rulL:=by
  rw [show 35=0 * 7 + 7 + 7 + 7 + 7 + 7 from rfl,List.take_add,List.take_add,List.take_add,List.take_add]
  rw [show 0 * 7 + 7 + 7 + 7 + 7=4 * 7 from rfl,show 0 * 7 + 7 + 7 + 7=3 * 7 from rfl,show 0 * 7 + 7 + 7=2 * 7 from rfl,show 0 * 7 + 7=1 * 7 from rfl,t1,t2,t3,t4]
  have t0' : List.take (1 * 7) cs.toList=_:=t0
  rw [t0']
  rfl
 intro i v hv
 have hi:i < 35:=by
  have:=(List.getElem?_eq_some_iff.1 hv).1
  simpa [rulL] using this
 rw [World.var?_cell hg hvar i,← Array.getElem?_toList]
 rw [← hall,List.getElem?_take,if_pos hi] at hv
 exact hv

theorem opn_of_two {W : World} (h : laidMetH Tryz.prog [("loop.example/g00631/impl.rules", Rows.laid_loop_example_g00631_impl_rules), ("loop.example/g00631/impl.openRow", Rows.laid_loop_example_g00631_impl_openRow)] W) : Opn W := by
 rw [MakeChecks.laidMetH_plain _ _ _ (by kernel_rfl)] at h
 obtain ⟨g,t,cs,fuel,p,hg,ht,hvar,hd⟩:=Lib.laidMet.reads h (List.mem_cons_of_mem _ (List.mem_singleton.2 rfl))
 obtain rfl:=Option.some.inj (gOpn.symm.trans hg)
 obtain rfl:=Option.some.inj (tOpn.symm.trans ht)
 unfold Rows.laid_loop_example_g00631_impl_openRow at hd
 intro j hj
 obtain ⟨f0,d0,q0,r0,s0⟩:=Lib.array_elem Tryz.underlying97 hd j hj
 rw [cI] at s0
 have hd0:d0=.lit (.int .i64 3):=by
  match j,hj with
  | 0,_=>simpa using r0.symm
  | 1,_=>simpa using r0.symm
  | 2,_=>simpa using r0.symm
 subst hd0
 obtain ⟨n0,e0,g0,_⟩:=DataW.trod_int Tryz.underlying2 s0
 have hn:n0=3:=by have:=g0.symm;simp at this;exact this.1
 subst hn
 rw [World.var?_cell hg hvar j,← Array.getElem?_toList]
 have:=congrArg (fun l=>l[0]?) e0
 simpa using this

theorem rulO_of_two {W : World} (h : laidMetH Tryz.prog [("loop.example/g00631/impl.rules", Rows.laid_loop_example_g00631_impl_rules), ("loop.example/g00631/impl.openRow", Rows.laid_loop_example_g00631_impl_openRow)] W) : RulO W := ⟨rul_of_two h, opn_of_two h⟩

end Go.Proofs.YtpjmlidbligcbaaGreatDoor

/- Texts joined, with what the laws reach alone. -/
import Derived.Test.YtpjmlidbligcbaaGreatDoorSSBC
import Derived.Test.YtpjmlidbligcbaaGreatDoorSSAY
set_option linter.unusedVariables false
set_option linter.unusedSimpArgs false
namespace Go.Proofs.YtpjmlidbligcbaaGreatDoor
open Go.RowKit
open Go.BigFrame
set_option maxRecDepth 100000
set_option maxHeartbeats 1000000 in
theorem chance_any (B b T:Nat) (n:Int) (w:World) (hS:Src B w b T) (hT:T≤1099511627776) (hn:n≤1099511627776) :
  Calls Tryz.prog 59 #[.pointer (some ⟨b,0,none⟩),.int .i64 n] w fun e w' => ∃ t:Bool,e=.returned (.bool t)∧Src B w' b (T + 1)∧w.grownBy w' (some b):=by
 go_enter Tryz.func59,Tryz.ntmps59
 go_wp2_with fail
 refine (next_any B b T n w hS hT hn).mono ?_
 rintro e w1 ⟨r,rfl,hr,hS1,hg⟩
 go_wp2
 go_ret
 exact ⟨_,rfl,hS1,hg⟩

set_option maxRecDepth 100000 in
set_option maxHeartbeats 8000000 in
theorem drawFirstReport_any (a:Option Addr) (cap:Nat) (zs:List Int) (w:World) (h:Row .u8 w a zs) (hu:∀ i,0≤zs.getD i 0∧zs.getD i 0≤255) (hl:zs.length≤1048576) :
  Calls Tryz.prog 11 #[.slice a zs.length cap] w fun e w' => ∃ (q:InstQ) (n1 v1:Int),e=.returned (.tuple #[.agg #[.bool q.has,q.vb,q.vr,q.vd],.int .i64 n1,.int .i64 v1])∧q.n≤1000∧instK.own w' q∧(∀ k∈instK.foot q,w.heap.size≤k)∧Below w.heap.size w w' := by
 have hb0:Below w.heap.size w (w.alloc (.cells #[.bool false,.slice none 0 0,.slice none 0 0,.slice none 0 0] 28)):=by go_grown
 have R0:=Blk.new w 28 #[.bool false,.slice none 0 0,.slice none 0 0,.slice none 0 0]
 have hW1:w.heap.size < (w.alloc (.cells #[.bool false,.slice none 0 0,.slice none 0 0,.slice none 0 0] 28)).heap.size:=by simp
 have hby:∀ i,i < zs.length→∃ b' off,a=some ⟨b',off,none⟩∧b' < w.heap.size∧(w.alloc (.cells #[.bool false,.slice none 0 0,.slice none 0 0,.slice none 0 0] 28)).cell? ⟨b',off + i,none⟩=some (.int .u8 (zs.getD i 0)):=fun i hi=>by
  obtain ⟨b',off,e1,e2,e3⟩:=h i hi
  exact ⟨b',off,e1,e2,cellB e3 hb0⟩
 go_enter Tryz.func11,Tryz.ntmps11
 go_wp2_with fail
 generalize w.alloc (.cells #[.bool false,.slice none 0 0,.slice none 0 0,.slice none 0 0] 28)=W at *
 refine (source_any w.heap.size a cap zs W hb0.size hl hu hby).mono ?_
 rintro e x1 ⟨rfl,hS,hb1⟩
 replace R0:=R0.below hb1
 replace hb0:=hb0.trans (hb1.mono hb0.size)
 generalize hbb:W.heap.size=b at *
 clear hb1 hby
 obtain ⟨B,HB⟩:∃ B,Hid (w.heap.size=B):=⟨_,rfl⟩
 rw [HB.out] at hS
 clear hbb
 go_wp2_with fail
 refine (l6Draw_any B b 0 6 x1 hS (by omega) (by omega)).mono ?_
 rintro e x2 ⟨q,rfl,hi,oq,nq,gq,hSn,hgn⟩
 have hx1:=hS.lt
 have hU:Out [b] _ _:=Out.of_grown hgn
 replace R0:=R0.outs hU (fun hk=>by simp only [List.mem_singleton] at hk;omega)
 replace hb0:=Out.keep hb0 hU hb0.size (fun k hk=>by simp only [List.mem_singleton] at hk;omega)
 replace hS:=hSn
 have hm:=instK.own_lt oq
 have hn:q.n≤1000:=by rw [inst_ne];have:=ins_small hi;omega
 clear hSn hgn hU nq hi
 obtain ⟨ch,cb,cbs,cr,crs,cd,cds⟩:=q
 obtain ⟨c1,c4,rfl⟩:∃ a c,cb=.slice a cbs.length c:=oq.1.shape
 obtain ⟨c2,c5,rfl⟩:∃ a c,cr=.slice a crs.length c:=oq.2.1.shape
 obtain ⟨c3,c6,rfl⟩:∃ a c,cd=.slice a cds.length c:=oq.2.2.shape
 have hbA:Below x2.heap.size x2 (x2.alloc (.cells #[.bool ch,.slice c1 cbs.length c4,.slice c2 crs.length c5,.slice c3 cds.length c6] 28)):=by go_grown
 have Bx:=Blk.new x2 28 #[.bool ch,.slice c1 cbs.length c4,.slice c2 crs.length c5,.slice c3 cds.length c6]
 have hgw:w.heap.size < x2.heap.size:=R0.lt
 have hgb:b < x2.heap.size:=hS.lt.2
 replace R0:=R0.below hbA
 replace hS:=hS.below hbA
 replace hb0:=hb0.trans (hbA.mono hb0.size)
 replace oq:=instK.own_out (F:=[]) oq (Out.of_below hbA) (fun _ _=>by simp)
 have low:∀ k∈instK.foot (⟨ch,.slice c1 cbs.length c4,cbs,.slice c2 crs.length c5,crs,.slice c3 cds.length c6,cds⟩:InstQ),b < k∧k≠x2.heap.size:=fun k hk=>⟨by have:=gq k hk;omega,by have:=hm k hk;omega⟩
 clear hbA gq hm
 go_wp2_with fail
 generalize hgx:x2.heap.size=g at *
 generalize x2.alloc (.cells #[.bool ch,.slice c1 cbs.length c4,.slice c2 crs.length c5,.slice c3 cds.length c6] 28)=X1 at *
 clear hgx
 refine (chance_any B b (0 + 2500) 3 X1 hS (by omega) (by omega)).mono ?_
 rintro e X ⟨cb9,rfl,hSn,hgn⟩
 have hU:Out [b] _ _:=Out.of_grown hgn
 replace R0:=R0.outs hU (fun hk=>by simp only [List.mem_singleton] at hk;omega)
 replace Bx:=Bx.outs hU (fun hk=>by simp only [List.mem_singleton] at hk;omega)
 replace hb0:=Out.keep hb0 hU hb0.size (fun k hk=>by simp only [List.mem_singleton] at hk;omega)
 replace hS:=hSn
 replace oq:=instK.own_out oq hU (fun k hk hk' => by simp only [List.mem_singleton] at hk';have:=low k hk;omega)
 clear hSn hgn hU
 cases cb9 with
 | false=>
  go_wp2_with fail
  have hsub:∀ k∈[b],k∈[b,w.heap.size]:=fun k hk=>by simp only [List.mem_singleton] at hk;simp [hk]
  have k0:=lato_cell (F:=[b,w.heap.size]) (Bx.cell 0 _ rfl) (by simp only [List.mem_cons,List.not_mem_nil,or_false];omega)
  have k1:=lato_cell (F:=[b,w.heap.size]) (Bx.cell 1 _ rfl) (by simp only [List.mem_cons,List.not_mem_nil,or_false];omega)
  have k2:=lato_cell (F:=[b,w.heap.size]) (Bx.cell 2 _ rfl) (by simp only [List.mem_cons,List.not_mem_nil,or_false];omega)
  have k3:=lato_cell (F:=[b,w.heap.size]) (Bx.cell 3 _ rfl) (by simp only [List.mem_cons,List.not_mem_nil,or_false];omega)
  refine region_vals [some 15,some 16,some 17,some 18,some 19,some 20,some 21,some 3,some 4] (fun vs w' => (∃ (nd vd:Int) (gp:Nat),vs=[.agg #[.bool ch,.slice c1 cbs.length c4,.slice c2 crs.length c5,.slice c3 cds.length c6],.pointer (some ⟨b,0,none⟩),.int .i64 nd,.int .i64 (nd - 1),.pointer (some ⟨b,0,none⟩),.slice (some ⟨gp,0,none⟩) 3 3,.int .i64 vd,.int .i64 (nd - 1),.int .i64 vd])∧instK.own w' (⟨ch,.slice c1 cbs.length c4,cbs,.slice c2 crs.length c5,crs,.slice c3 cds.length c6,cds⟩:InstQ)∧Blk w' w.heap.size 28 #[.bool ch,.slice c1 cbs.length c4,.slice c2 crs.length c5,.slice c3 cds.length c6]∧Out [b,w.heap.size] X w') ?_ ?_
  ·have sx:Src B X.drew b (0 + 2500 + 1):=hS.below ((Below.refl _ _).drew)
   have ux:Out [b] X X.drew:=Out.of_below ((Below.refl _ _).drew)
   have hnn:Nonempty (LatO [b,w.heap.size] X):=⟨⟨X,Out.refl _ _⟩⟩
   refine text_begin (S:=fun w' => ∃ u:LatO [b,w.heap.size] X,w' = u.val) (by kernel_rfl) ?_
   refine seg_range [(0,2),(4,1)] 7 (by kernel_rfl) (by kernel_rfl) (by kernel_rfl) (by kernel_rfl) (by kernel_rfl) ⟨⟨_,ux.mono hsub⟩,rfl⟩ ?_
   simp only [pickR,List.toList_toArray,List.flatMap_cons,List.flatMap_nil,List.drop_succ_cons,List.drop_zero,List.take_succ_cons,List.take_zero,List.cons_append,List.nil_append,List.append_nil]
   repeat go_big_quiet_step (fail)
   refine wpQuiet_nil ?_
   clear k0 k1 k2 k3
   generalize X.drew=wd at sx ux ⊢
   refine two_at 2 5 6 (by kernel_rfl) (by kernel_rfl) ?_ ?_
   ·skip
    refine op_call 2 (some 17) 65 #[.pointer (some ⟨b,0,none⟩),.int .i64 5] (by kernel_rfl) (by kernel_rfl) (by kernel_rfl) ?_
    refine (next_any B b (0 + 2500 + 1) 5 _ sx (by omega) (by omega)).mono ?_
    rintro e x7 ⟨nd,rfl,hnd,sn',gn⟩
    have hnd0:=hnd.1
    have hnd5:=hnd.2.1 (by omega)
    replace sx:=sn'
    have un:Out [b] _ _:=Out.of_grown gn
    replace ux:=ux.trans un
    clear un gn sn' hnd
    refine ⟨_,rfl,⟨⟨_,ux.mono hsub⟩,rfl⟩,?_⟩
    simp only [Act.put,List.getElem_toArray,List.getElem_cons_succ,List.getElem_cons_zero,List.setIfInBounds_toArray,List.set_cons_zero,List.set_cons_succ]
    refine seg_range [(3,1)] 5 (by kernel_rfl) (by kernel_rfl) (by kernel_rfl) (by kernel_rfl) (by kernel_rfl) ⟨⟨_,ux.mono hsub⟩,rfl⟩ ?_
    simp only [pickR,List.toList_toArray,List.flatMap_cons,List.flatMap_nil,List.drop_succ_cons,List.drop_zero,List.take_succ_cons,List.take_zero,List.cons_append,List.nil_append,List.append_nil]
    repeat go_big_quiet_step (fail)
    refine wpQuiet_nil ?_
    refine one_at 5 _ 4 (by kernel_rfl) rfl (by kernel_rfl) ?_
    have hpk:=World.ownsRow_lit (e:=2) (size:=1) x7 #[.int .i64 0,.int .i64 1,.int .i64 2] 3 (Nat.le_refl _) (by decide) rfl
    have hbg:b < x7.heap.size:=sx.lt.2
    have hba:Below x7.heap.size x7 (x7.alloc (.cells #[.int .i64 0,.int .i64 1,.int .i64 2] 2)):=by go_grown
    replace sx:=sx.below hba
    replace ux:=ux.trans (Out.of_below hba)
    clear hba
    go_wp2
    refine ThenGo.to ⟨⟨⟨_,ux.mono hsub⟩,rfl⟩,?_⟩
    generalize hGp:x7.heap.size=gp at *
    clear hGp
    generalize x7.alloc (.cells #[.int .i64 0,.int .i64 1,.int .i64 2] 2)=Y at *
    refine call_at 6 (some 21) 66 #[.pointer (some ⟨b,0,none⟩),.slice (some ⟨gp,0,none⟩) 3 3] 3 (by kernel_rfl) (by kernel_rfl) (by kernel_rfl) (by kernel_rfl) (by kernel_rfl) ?_
    refine (pick_any B b (0 + 2500 + 1 + 1) gp _ [0,1,2] _ sx (by omega) hpk (by simp) (by simp) (by simp [Value.ownBlock];omega)).mono ?_
    rintro e x9 ⟨vd,rfl,_,sn',gn⟩
    have un:Out [b] _ _:=Out.of_grown gn
    replace ux:=ux.trans un
    clear un gn sn' hpk sx
    refine ⟨_,rfl,⟨⟨_,ux.mono hsub⟩,rfl⟩,?_⟩
    simp only [Act.put,List.getElem_toArray,List.getElem_cons_succ,List.getElem_cons_zero,List.setIfInBounds_toArray,List.set_cons_zero,List.set_cons_succ]
    refine one_at 7 _ 2 (by kernel_rfl) rfl (by kernel_rfl) ?_
    have Rx:=R0.outs ux (fun hk=>by simp only [List.mem_singleton] at hk;omega)
    have Rr:=Rx.row #[.bool ch,.slice c1 cbs.length c4,.slice c2 crs.length c5,.slice c3 cds.length c6]
    have hsr:(Tryz.prog.info? 28).map (·.size)=some (#[.bool ch,.slice c1 cbs.length c4,.slice c2 crs.length c5,.slice c3 cds.length c6]:Array Value).size:=sz_inst
    have uz:Out [b,w.heap.size] X (x9.setRow w.heap.size #[.bool ch,.slice c1 cbs.length c4,.slice c2 crs.length c5,.slice c3 cds.length c6]):=(ux.mono hsub).trans ((out_row x9 w.heap.size #[.bool ch,.slice c1 cbs.length c4,.slice c2 crs.length c5,.slice c3 cds.length c6]).mono (fun k hk=>by simp only [List.mem_singleton] at hk;simp [hk]))
    have oz:=instK.own_out oq uz (fun k hk hk' => by simp only [List.mem_cons,List.not_mem_nil,or_false] at hk';have:=low k hk;omega)
    refine st_row (by kernel_rfl) 28 _ _ rfl _ #[.bool ch,.slice c1 cbs.length c4,.slice c2 crs.length c5,.slice c3 cds.length c6] rfl rfl 28 _ Rx hsr rfl (by simp [Value.oneCell']) ?_
    refine ThenGo.to ⟨⟨⟨_,uz⟩,rfl⟩,?_⟩
    try simp only [Act.put,List.getElem_toArray,List.getElem_cons_succ,List.getElem_cons_zero,List.setIfInBounds_toArray,List.set_cons_zero,List.set_cons_succ]
    refine seg_range [(8,2)] 0 (by kernel_rfl) (by kernel_rfl) (by kernel_rfl) (by kernel_rfl) (by kernel_rfl) ⟨⟨_,uz⟩,rfl⟩ ?_
    simp only [pickR,List.toList_toArray,List.flatMap_cons,List.flatMap_nil,List.drop_succ_cons,List.drop_zero,List.take_succ_cons,List.take_zero,List.cons_append,List.nil_append,List.append_nil]
    repeat go_big_quiet_step (fail)
    refine wpQuiet_nil ?_
    refine text_end (by kernel_rfl) ?_
    refine ⟨rfl,_,⟨⟨nd,vd,gp,rfl⟩,oz,Rr,uz⟩,?_⟩
    simp only [putAll,Act.put,List.getElem_toArray,List.getElem_cons_succ,List.getElem_cons_zero,List.setIfInBounds_toArray,List.set_cons_zero,List.set_cons_succ]
    try rfl
   ·skip
    refine op_one 5 _ rfl ?_
    have hpk:=World.ownsRow_lit (e:=2) (size:=1) wd #[.int .i64 0,.int .i64 1,.int .i64 2] 3 (Nat.le_refl _) (by decide) rfl
    have hbg:b < wd.heap.size:=sx.lt.2
    have hba:Below wd.heap.size wd (wd.alloc (.cells #[.int .i64 0,.int .i64 1,.int .i64 2] 2)):=by go_grown
    replace sx:=sx.below hba
    replace ux:=ux.trans (Out.of_below hba)
    clear hba
    go_wp2
    refine ThenGo.to ⟨⟨⟨_,ux.mono hsub⟩,rfl⟩,?_⟩
    generalize hGp:wd.heap.size=gp at *
    clear hGp
    generalize wd.alloc (.cells #[.int .i64 0,.int .i64 1,.int .i64 2] 2)=Y at *
    refine call_at 2 (some 17) 65 #[.pointer (some ⟨b,0,none⟩),.int .i64 5] 5 (by kernel_rfl) (by kernel_rfl) (by kernel_rfl) (by kernel_rfl) (by kernel_rfl) ?_
    refine (next_any B b (0 + 2500 + 1) 5 _ sx (by omega) (by omega)).mono ?_
    rintro e x7 ⟨nd,rfl,hnd,sn',gn⟩
    have hnd0:=hnd.1
    have hnd5:=hnd.2.1 (by omega)
    replace sx:=sn'
    have un:Out [b] _ _:=Out.of_grown gn
    replace ux:=ux.trans un
    replace hpk:=hpk.kept gn (Or.inr (by simp [Value.ownBlock];omega))
    clear un gn sn' hnd
    refine ⟨_,rfl,⟨⟨_,ux.mono hsub⟩,rfl⟩,?_⟩
    simp only [Act.put,List.getElem_toArray,List.getElem_cons_succ,List.getElem_cons_zero,List.setIfInBounds_toArray,List.set_cons_zero,List.set_cons_succ]
    refine seg_range [(3,1)] 4 (by kernel_rfl) (by kernel_rfl) (by kernel_rfl) (by kernel_rfl) (by kernel_rfl) ⟨⟨_,ux.mono hsub⟩,rfl⟩ ?_
    simp only [pickR,List.toList_toArray,List.flatMap_cons,List.flatMap_nil,List.drop_succ_cons,List.drop_zero,List.take_succ_cons,List.take_zero,List.cons_append,List.nil_append,List.append_nil]
    repeat go_big_quiet_step (fail)
    refine wpQuiet_nil ?_
    refine call_at 6 (some 21) 66 #[.pointer (some ⟨b,0,none⟩),.slice (some ⟨gp,0,none⟩) 3 3] 3 (by kernel_rfl) (by kernel_rfl) (by kernel_rfl) (by kernel_rfl) (by kernel_rfl) ?_
    refine (pick_any B b (0 + 2500 + 1 + 1) gp _ [0,1,2] _ sx (by omega) hpk (by simp) (by simp) (by simp [Value.ownBlock];omega)).mono ?_
    rintro e x9 ⟨vd,rfl,_,sn',gn⟩
    have un:Out [b] _ _:=Out.of_grown gn
    replace ux:=ux.trans un
    clear un gn sn' hpk sx
    refine ⟨_,rfl,⟨⟨_,ux.mono hsub⟩,rfl⟩,?_⟩
    simp only [Act.put,List.getElem_toArray,List.getElem_cons_succ,List.getElem_cons_zero,List.setIfInBounds_toArray,List.set_cons_zero,List.set_cons_succ]
    refine one_at 7 _ 2 (by kernel_rfl) rfl (by kernel_rfl) ?_
    have Rx:=R0.outs ux (fun hk=>by simp only [List.mem_singleton] at hk;omega)
    have Rr:=Rx.row #[.bool ch,.slice c1 cbs.length c4,.slice c2 crs.length c5,.slice c3 cds.length c6]
    have hsr:(Tryz.prog.info? 28).map (·.size)=some (#[.bool ch,.slice c1 cbs.length c4,.slice c2 crs.length c5,.slice c3 cds.length c6]:Array Value).size:=sz_inst
    have uz:Out [b,w.heap.size] X (x9.setRow w.heap.size #[.bool ch,.slice c1 cbs.length c4,.slice c2 crs.length c5,.slice c3 cds.length c6]):=(ux.mono hsub).trans ((out_row x9 w.heap.size #[.bool ch,.slice c1 cbs.length c4,.slice c2 crs.length c5,.slice c3 cds.length c6]).mono (fun k hk=>by simp only [List.mem_singleton] at hk;simp [hk]))
    have oz:=instK.own_out oq uz (fun k hk hk' => by simp only [List.mem_cons,List.not_mem_nil,or_false] at hk';have:=low k hk;omega)
    refine st_row (by kernel_rfl) 28 _ _ rfl _ #[.bool ch,.slice c1 cbs.length c4,.slice c2 crs.length c5,.slice c3 cds.length c6] rfl rfl 28 _ Rx hsr rfl (by simp [Value.oneCell']) ?_
    refine ThenGo.to ⟨⟨⟨_,uz⟩,rfl⟩,?_⟩
    try simp only [Act.put,List.getElem_toArray,List.getElem_cons_succ,List.getElem_cons_zero,List.setIfInBounds_toArray,List.set_cons_zero,List.set_cons_succ]
    refine seg_range [(8,2)] 0 (by kernel_rfl) (by kernel_rfl) (by kernel_rfl) (by kernel_rfl) (by kernel_rfl) ⟨⟨_,uz⟩,rfl⟩ ?_
    simp only [pickR,List.toList_toArray,List.flatMap_cons,List.flatMap_nil,List.drop_succ_cons,List.drop_zero,List.take_succ_cons,List.take_zero,List.cons_append,List.nil_append,List.append_nil]
    repeat go_big_quiet_step (fail)
    refine wpQuiet_nil ?_
    refine text_end (by kernel_rfl) ?_
    refine ⟨rfl,_,⟨⟨nd,vd,gp,rfl⟩,oz,Rr,uz⟩,?_⟩
    simp only [putAll,Act.put,List.getElem_toArray,List.getElem_cons_succ,List.getElem_cons_zero,List.setIfInBounds_toArray,List.set_cons_zero,List.set_cons_succ]
    try rfl
  rintro vs X6 ⟨⟨nd,vd,gp,rfl⟩,ow,Rr,uX⟩
  simp only [putAll,Act.put,List.setIfInBounds_toArray,List.set_cons_zero,List.set_cons_succ]
  have hBz:Below w.heap.size w X6:=Out.keep hb0 uX hb0.size (fun k hk=>by simp only [List.mem_cons,List.not_mem_nil,or_false] at hk;omega)
  have HQ:Hid (InstQ.n (⟨ch,.slice c1 cbs.length c4,cbs,.slice c2 crs.length c5,crs,.slice c3 cds.length c6,cds⟩:InstQ)≤1000∧instK.own X6 (⟨ch,.slice c1 cbs.length c4,cbs,.slice c2 crs.length c5,crs,.slice c3 cds.length c6,cds⟩:InstQ)∧∀ k∈instK.foot (⟨ch,.slice c1 cbs.length c4,cbs,.slice c2 crs.length c5,crs,.slice c3 cds.length c6,cds⟩:InstQ),w.heap.size≤k):=⟨hn,ow,fun k hk=>by have:=low k hk;omega⟩
  have q0:=Rr.cell 0 _ rfl
  have q1:=Rr.cell 1 _ rfl
  have q2:=Rr.cell 2 _ rfl
  have q3:=Rr.cell 3 _ rfl
  clear ow uX k0 k1 k2 k3 Bx R0 hS oq low hn
  go_wp2
  exact bodyPost_ret (v:=.tuple #[.agg #[.bool ch,.slice c1 cbs.length c4,.slice c2 crs.length c5,.slice c3 cds.length c6],.int .i64 (nd - 1),.int .i64 vd]) (by simp [results,Tryz.results11,go_sem,q0,q1,q2,q3]) rfl ⟨(⟨ch,.slice c1 cbs.length c4,cbs,.slice c2 crs.length c5,crs,.slice c3 cds.length c6,cds⟩:InstQ),nd - 1,vd,rfl,HQ.out.1,HQ.out.2.1,HQ.out.2.2,hBz⟩

 | true=>
  go_wp2_with fail
  refine (l6Bent_any B b (0 + 2500 + 1) X hS (by omega)).mono ?_
  rintro e x5 ⟨q5,rfl,hn5,o5,n5,g5,hSn,hgn⟩
  have hgX:=Bx.lt
  have hU:Out [b] _ _:=Out.of_grown hgn
  replace R0:=R0.outs hU (fun hk=>by simp only [List.mem_singleton] at hk;omega)
  replace Bx:=Bx.outs hU (fun hk=>by simp only [List.mem_singleton] at hk;omega)
  replace hb0:=Out.keep hb0 hU hb0.size (fun k hk=>by simp only [List.mem_singleton] at hk;omega)
  replace hS:=hSn
  clear hSn hgn hU oq low hn n5
  obtain ⟨dh,db,dbs,dr,drs,dd,dds⟩:=q5
  obtain ⟨d1,d4,rfl⟩:∃ a c,db=.slice a dbs.length c:=o5.1.shape
  obtain ⟨d2,d5,rfl⟩:∃ a c,dr=.slice a drs.length c:=o5.2.1.shape
  obtain ⟨d3,d6,rfl⟩:∃ a c,dd=.slice a dds.length c:=o5.2.2.shape
  have Br:=Bx.row #[.bool dh,.slice d1 dbs.length d4,.slice d2 drs.length d5,.slice d3 dds.length d6]
  have hsr5:(Tryz.prog.info? 28).map (·.size)=some (#[.bool dh,.slice d1 dbs.length d4,.slice d2 drs.length d5,.slice d3 dds.length d6]:Array Value).size:=sz_inst
  have hUr:=out_row x5 g #[.bool dh,.slice d1 dbs.length d4,.slice d2 drs.length d5,.slice d3 dds.length d6]
  have R5:=R0.outs hUr (fun hk=>by simp only [List.mem_singleton] at hk;omega)
  have S5:=hS.out hUr (by simp only [List.mem_singleton];omega) (fun k hk=>by simp only [List.mem_singleton] at hk;have:=HB.out;omega)
  have b5:=Out.keep hb0 hUr hb0.size (fun k hk=>by simp only [List.mem_singleton] at hk;omega)
  have o5' := instK.own_out o5 hUr (fun k hk hk' => by simp only [List.mem_singleton] at hk';have:=g5 k hk;omega)
  have low5:∀ k∈instK.foot (⟨dh,.slice d1 dbs.length d4,dbs,.slice d2 drs.length d5,drs,.slice d3 dds.length d6,dds⟩:InstQ),b < k∧k≠g:=fun k hk=>by have:=g5 k hk;omega
  go_wp2_with (first | (refine st_row (by kernel_rfl) 28 _ _ rfl _ #[.bool dh,.slice d1 dbs.length d4,.slice d2 drs.length d5,.slice d3 dds.length d6] rfl rfl 28 _ Bx hsr5 rfl (by simp [Value.oneCell']) ?_))
  try simp only [Act.put]
  clear Bx R0 hS hb0 o5 hUr hsr5 g5
  generalize x5.setRow g #[.bool dh,.slice d1 dbs.length d4,.slice d2 drs.length d5,.slice d3 dds.length d6]=X at *
  have Bx:=Br
  have R0:=R5
  have hS:=S5
  have hb0:=b5
  have oq:=o5'
  have low:=low5
  have hn:=hn5
  clear Br R5 S5 b5 o5' low5 hn5
  have hsub:∀ k∈[b],k∈[b,w.heap.size]:=fun k hk=>by simp only [List.mem_singleton] at hk;simp [hk]
  have k0:=lato_cell (F:=[b,w.heap.size]) (Bx.cell 0 _ rfl) (by simp only [List.mem_cons,List.not_mem_nil,or_false];omega)
  have k1:=lato_cell (F:=[b,w.heap.size]) (Bx.cell 1 _ rfl) (by simp only [List.mem_cons,List.not_mem_nil,or_false];omega)
  have k2:=lato_cell (F:=[b,w.heap.size]) (Bx.cell 2 _ rfl) (by simp only [List.mem_cons,List.not_mem_nil,or_false];omega)
  have k3:=lato_cell (F:=[b,w.heap.size]) (Bx.cell 3 _ rfl) (by simp only [List.mem_cons,List.not_mem_nil,or_false];omega)
  refine region_vals [some 15,some 16,some 17,some 18,some 19,some 20,some 21,some 3,some 4] (fun vs w' => (∃ (nd vd:Int) (gp:Nat),vs=[.agg #[.bool dh,.slice d1 dbs.length d4,.slice d2 drs.length d5,.slice d3 dds.length d6],.pointer (some ⟨b,0,none⟩),.int .i64 nd,.int .i64 (nd - 1),.pointer (some ⟨b,0,none⟩),.slice (some ⟨gp,0,none⟩) 3 3,.int .i64 vd,.int .i64 (nd - 1),.int .i64 vd])∧instK.own w' (⟨dh,.slice d1 dbs.length d4,dbs,.slice d2 drs.length d5,drs,.slice d3 dds.length d6,dds⟩:InstQ)∧Blk w' w.heap.size 28 #[.bool dh,.slice d1 dbs.length d4,.slice d2 drs.length d5,.slice d3 dds.length d6]∧Out [b,w.heap.size] X w') ?_ ?_
  ·have sx:Src B X.drew b (0 + 2500 + 1 + 2600):=hS.below ((Below.refl _ _).drew)
   have ux:Out [b] X X.drew:=Out.of_below ((Below.refl _ _).drew)
   have hnn:Nonempty (LatO [b,w.heap.size] X):=⟨⟨X,Out.refl _ _⟩⟩
   refine text_begin (S:=fun w' => ∃ u:LatO [b,w.heap.size] X,w' = u.val) (by kernel_rfl) ?_
   refine seg_range [(0,2),(4,1)] 7 (by kernel_rfl) (by kernel_rfl) (by kernel_rfl) (by kernel_rfl) (by kernel_rfl) ⟨⟨_,ux.mono hsub⟩,rfl⟩ ?_
   simp only [pickR,List.toList_toArray,List.flatMap_cons,List.flatMap_nil,List.drop_succ_cons,List.drop_zero,List.take_succ_cons,List.take_zero,List.cons_append,List.nil_append,List.append_nil]
   repeat go_big_quiet_step (fail)
   refine wpQuiet_nil ?_
   clear k0 k1 k2 k3
   generalize X.drew=wd at sx ux ⊢
   refine two_at 2 5 6 (by kernel_rfl) (by kernel_rfl) ?_ ?_
   ·skip
    refine op_call 2 (some 17) 65 #[.pointer (some ⟨b,0,none⟩),.int .i64 5] (by kernel_rfl) (by kernel_rfl) (by kernel_rfl) ?_
    refine (next_any B b (0 + 2500 + 1 + 2600) 5 _ sx (by omega) (by omega)).mono ?_
    rintro e x7 ⟨nd,rfl,hnd,sn',gn⟩
    have hnd0:=hnd.1
    have hnd5:=hnd.2.1 (by omega)
    replace sx:=sn'
    have un:Out [b] _ _:=Out.of_grown gn
    replace ux:=ux.trans un
    clear un gn sn' hnd
    refine ⟨_,rfl,⟨⟨_,ux.mono hsub⟩,rfl⟩,?_⟩
    simp only [Act.put,List.getElem_toArray,List.getElem_cons_succ,List.getElem_cons_zero,List.setIfInBounds_toArray,List.set_cons_zero,List.set_cons_succ]
    refine seg_range [(3,1)] 5 (by kernel_rfl) (by kernel_rfl) (by kernel_rfl) (by kernel_rfl) (by kernel_rfl) ⟨⟨_,ux.mono hsub⟩,rfl⟩ ?_
    simp only [pickR,List.toList_toArray,List.flatMap_cons,List.flatMap_nil,List.drop_succ_cons,List.drop_zero,List.take_succ_cons,List.take_zero,List.cons_append,List.nil_append,List.append_nil]
    repeat go_big_quiet_step (fail)
    refine wpQuiet_nil ?_
    refine one_at 5 _ 4 (by kernel_rfl) rfl (by kernel_rfl) ?_
    have hpk:=World.ownsRow_lit (e:=2) (size:=1) x7 #[.int .i64 0,.int .i64 1,.int .i64 2] 3 (Nat.le_refl _) (by decide) rfl
    have hbg:b < x7.heap.size:=sx.lt.2
    have hba:Below x7.heap.size x7 (x7.alloc (.cells #[.int .i64 0,.int .i64 1,.int .i64 2] 2)):=by go_grown
    replace sx:=sx.below hba
    replace ux:=ux.trans (Out.of_below hba)
    clear hba
    go_wp2
    refine ThenGo.to ⟨⟨⟨_,ux.mono hsub⟩,rfl⟩,?_⟩
    generalize hGp:x7.heap.size=gp at *
    clear hGp
    generalize x7.alloc (.cells #[.int .i64 0,.int .i64 1,.int .i64 2] 2)=Y at *
    refine call_at 6 (some 21) 66 #[.pointer (some ⟨b,0,none⟩),.slice (some ⟨gp,0,none⟩) 3 3] 3 (by kernel_rfl) (by kernel_rfl) (by kernel_rfl) (by kernel_rfl) (by kernel_rfl) ?_
    refine (pick_any B b (0 + 2500 + 1 + 2600 + 1) gp _ [0,1,2] _ sx (by omega) hpk (by simp) (by simp) (by simp [Value.ownBlock];omega)).mono ?_
    rintro e x9 ⟨vd,rfl,_,sn',gn⟩
    have un:Out [b] _ _:=Out.of_grown gn
    replace ux:=ux.trans un
    clear un gn sn' hpk sx
    refine ⟨_,rfl,⟨⟨_,ux.mono hsub⟩,rfl⟩,?_⟩
    simp only [Act.put,List.getElem_toArray,List.getElem_cons_succ,List.getElem_cons_zero,List.setIfInBounds_toArray,List.set_cons_zero,List.set_cons_succ]
    refine one_at 7 _ 2 (by kernel_rfl) rfl (by kernel_rfl) ?_
    have Rx:=R0.outs ux (fun hk=>by simp only [List.mem_singleton] at hk;omega)
    have Rr:=Rx.row #[.bool dh,.slice d1 dbs.length d4,.slice d2 drs.length d5,.slice d3 dds.length d6]
    have hsr:(Tryz.prog.info? 28).map (·.size)=some (#[.bool dh,.slice d1 dbs.length d4,.slice d2 drs.length d5,.slice d3 dds.length d6]:Array Value).size:=sz_inst
    have uz:Out [b,w.heap.size] X (x9.setRow w.heap.size #[.bool dh,.slice d1 dbs.length d4,.slice d2 drs.length d5,.slice d3 dds.length d6]):=(ux.mono hsub).trans ((out_row x9 w.heap.size #[.bool dh,.slice d1 dbs.length d4,.slice d2 drs.length d5,.slice d3 dds.length d6]).mono (fun k hk=>by simp only [List.mem_singleton] at hk;simp [hk]))
    have oz:=instK.own_out oq uz (fun k hk hk' => by simp only [List.mem_cons,List.not_mem_nil,or_false] at hk';have:=low k hk;omega)
    refine st_row (by kernel_rfl) 28 _ _ rfl _ #[.bool dh,.slice d1 dbs.length d4,.slice d2 drs.length d5,.slice d3 dds.length d6] rfl rfl 28 _ Rx hsr rfl (by simp [Value.oneCell']) ?_
    refine ThenGo.to ⟨⟨⟨_,uz⟩,rfl⟩,?_⟩
    try simp only [Act.put,List.getElem_toArray,List.getElem_cons_succ,List.getElem_cons_zero,List.setIfInBounds_toArray,List.set_cons_zero,List.set_cons_succ]
    refine seg_range [(8,2)] 0 (by kernel_rfl) (by kernel_rfl) (by kernel_rfl) (by kernel_rfl) (by kernel_rfl) ⟨⟨_,uz⟩,rfl⟩ ?_
    simp only [pickR,List.toList_toArray,List.flatMap_cons,List.flatMap_nil,List.drop_succ_cons,List.drop_zero,List.take_succ_cons,List.take_zero,List.cons_append,List.nil_append,List.append_nil]
    repeat go_big_quiet_step (fail)
    refine wpQuiet_nil ?_
    refine text_end (by kernel_rfl) ?_
    refine ⟨rfl,_,⟨⟨nd,vd,gp,rfl⟩,oz,Rr,uz⟩,?_⟩
    simp only [putAll,Act.put,List.getElem_toArray,List.getElem_cons_succ,List.getElem_cons_zero,List.setIfInBounds_toArray,List.set_cons_zero,List.set_cons_succ]
    try rfl
   ·skip
    refine op_one 5 _ rfl ?_
    have hpk:=World.ownsRow_lit (e:=2) (size:=1) wd #[.int .i64 0,.int .i64 1,.int .i64 2] 3 (Nat.le_refl _) (by decide) rfl
    have hbg:b < wd.heap.size:=sx.lt.2
    have hba:Below wd.heap.size wd (wd.alloc (.cells #[.int .i64 0,.int .i64 1,.int .i64 2] 2)):=by go_grown
    replace sx:=sx.below hba
    replace ux:=ux.trans (Out.of_below hba)
    clear hba
    go_wp2
    refine ThenGo.to ⟨⟨⟨_,ux.mono hsub⟩,rfl⟩,?_⟩
    generalize hGp:wd.heap.size=gp at *
    clear hGp
    generalize wd.alloc (.cells #[.int .i64 0,.int .i64 1,.int .i64 2] 2)=Y at *
    refine call_at 2 (some 17) 65 #[.pointer (some ⟨b,0,none⟩),.int .i64 5] 5 (by kernel_rfl) (by kernel_rfl) (by kernel_rfl) (by kernel_rfl) (by kernel_rfl) ?_
    refine (next_any B b (0 + 2500 + 1 + 2600) 5 _ sx (by omega) (by omega)).mono ?_
    rintro e x7 ⟨nd,rfl,hnd,sn',gn⟩
    have hnd0:=hnd.1
    have hnd5:=hnd.2.1 (by omega)
    replace sx:=sn'
    have un:Out [b] _ _:=Out.of_grown gn
    replace ux:=ux.trans un
    replace hpk:=hpk.kept gn (Or.inr (by simp [Value.ownBlock];omega))
    clear un gn sn' hnd
    refine ⟨_,rfl,⟨⟨_,ux.mono hsub⟩,rfl⟩,?_⟩
    simp only [Act.put,List.getElem_toArray,List.getElem_cons_succ,List.getElem_cons_zero,List.setIfInBounds_toArray,List.set_cons_zero,List.set_cons_succ]
    refine seg_range [(3,1)] 4 (by kernel_rfl) (by kernel_rfl) (by kernel_rfl) (by kernel_rfl) (by kernel_rfl) ⟨⟨_,ux.mono hsub⟩,rfl⟩ ?_
    simp only [pickR,List.toList_toArray,List.flatMap_cons,List.flatMap_nil,List.drop_succ_cons,List.drop_zero,List.take_succ_cons,List.take_zero,List.cons_append,List.nil_append,List.append_nil]
    repeat go_big_quiet_step (fail)
    refine wpQuiet_nil ?_
    refine call_at 6 (some 21) 66 #[.pointer (some ⟨b,0,none⟩),.slice (some ⟨gp,0,none⟩) 3 3] 3 (by kernel_rfl) (by kernel_rfl) (by kernel_rfl) (by kernel_rfl) (by kernel_rfl) ?_
    refine (pick_any B b (0 + 2500 + 1 + 2600 + 1) gp _ [0,1,2] _ sx (by omega) hpk (by simp) (by simp) (by simp [Value.ownBlock];omega)).mono ?_
    rintro e x9 ⟨vd,rfl,_,sn',gn⟩
    have un:Out [b] _ _:=Out.of_grown gn
    replace ux:=ux.trans un
    clear un gn sn' hpk sx
    refine ⟨_,rfl,⟨⟨_,ux.mono hsub⟩,rfl⟩,?_⟩
    simp only [Act.put,List.getElem_toArray,List.getElem_cons_succ,List.getElem_cons_zero,List.setIfInBounds_toArray,List.set_cons_zero,List.set_cons_succ]
    refine one_at 7 _ 2 (by kernel_rfl) rfl (by kernel_rfl) ?_
    have Rx:=R0.outs ux (fun hk=>by simp only [List.mem_singleton] at hk;omega)
    have Rr:=Rx.row #[.bool dh,.slice d1 dbs.length d4,.slice d2 drs.length d5,.slice d3 dds.length d6]
    have hsr:(Tryz.prog.info? 28).map (·.size)=some (#[.bool dh,.slice d1 dbs.length d4,.slice d2 drs.length d5,.slice d3 dds.length d6]:Array Value).size:=sz_inst
    have uz:Out [b,w.heap.size] X (x9.setRow w.heap.size #[.bool dh,.slice d1 dbs.length d4,.slice d2 drs.length d5,.slice d3 dds.length d6]):=(ux.mono hsub).trans ((out_row x9 w.heap.size #[.bool dh,.slice d1 dbs.length d4,.slice d2 drs.length d5,.slice d3 dds.length d6]).mono (fun k hk=>by simp only [List.mem_singleton] at hk;simp [hk]))
    have oz:=instK.own_out oq uz (fun k hk hk' => by simp only [List.mem_cons,List.not_mem_nil,or_false] at hk';have:=low k hk;omega)
    refine st_row (by kernel_rfl) 28 _ _ rfl _ #[.bool dh,.slice d1 dbs.length d4,.slice d2 drs.length d5,.slice d3 dds.length d6] rfl rfl 28 _ Rx hsr rfl (by simp [Value.oneCell']) ?_
    refine ThenGo.to ⟨⟨⟨_,uz⟩,rfl⟩,?_⟩
    try simp only [Act.put,List.getElem_toArray,List.getElem_cons_succ,List.getElem_cons_zero,List.setIfInBounds_toArray,List.set_cons_zero,List.set_cons_succ]
    refine seg_range [(8,2)] 0 (by kernel_rfl) (by kernel_rfl) (by kernel_rfl) (by kernel_rfl) (by kernel_rfl) ⟨⟨_,uz⟩,rfl⟩ ?_
    simp only [pickR,List.toList_toArray,List.flatMap_cons,List.flatMap_nil,List.drop_succ_cons,List.drop_zero,List.take_succ_cons,List.take_zero,List.cons_append,List.nil_append,List.append_nil]
    repeat go_big_quiet_step (fail)
    refine wpQuiet_nil ?_
    refine text_end (by kernel_rfl) ?_
    refine ⟨rfl,_,⟨⟨nd,vd,gp,rfl⟩,oz,Rr,uz⟩,?_⟩
    simp only [putAll,Act.put,List.getElem_toArray,List.getElem_cons_succ,List.getElem_cons_zero,List.setIfInBounds_toArray,List.set_cons_zero,List.set_cons_succ]
    try rfl
  rintro vs X6 ⟨⟨nd,vd,gp,rfl⟩,ow,Rr,uX⟩
  simp only [putAll,Act.put,List.setIfInBounds_toArray,List.set_cons_zero,List.set_cons_succ]
  have hBz:Below w.heap.size w X6:=Out.keep hb0 uX hb0.size (fun k hk=>by simp only [List.mem_cons,List.not_mem_nil,or_false] at hk;omega)
  have HQ:Hid (InstQ.n (⟨dh,.slice d1 dbs.length d4,dbs,.slice d2 drs.length d5,drs,.slice d3 dds.length d6,dds⟩:InstQ)≤1000∧instK.own X6 (⟨dh,.slice d1 dbs.length d4,dbs,.slice d2 drs.length d5,drs,.slice d3 dds.length d6,dds⟩:InstQ)∧∀ k∈instK.foot (⟨dh,.slice d1 dbs.length d4,dbs,.slice d2 drs.length d5,drs,.slice d3 dds.length d6,dds⟩:InstQ),w.heap.size≤k):=⟨hn,ow,fun k hk=>by have:=low k hk;omega⟩
  have q0:=Rr.cell 0 _ rfl
  have q1:=Rr.cell 1 _ rfl
  have q2:=Rr.cell 2 _ rfl
  have q3:=Rr.cell 3 _ rfl
  clear ow uX k0 k1 k2 k3 Bx R0 hS oq low hn
  go_wp2
  exact bodyPost_ret (v:=.tuple #[.agg #[.bool dh,.slice d1 dbs.length d4,.slice d2 drs.length d5,.slice d3 dds.length d6],.int .i64 (nd - 1),.int .i64 vd]) (by simp [results,Tryz.results11,go_sem,q0,q1,q2,q3]) rfl ⟨(⟨dh,.slice d1 dbs.length d4,dbs,.slice d2 drs.length d5,drs,.slice d3 dds.length d6,dds⟩:InstQ),nd - 1,vd,rfl,HQ.out.1,HQ.out.2.1,HQ.out.2.2,hBz⟩

end Go.Proofs.YtpjmlidbligcbaaGreatDoor
namespace Go.Proofs.YtpjmlidbligcbaaGreatDoor
open Go.RowKit
open Go.BigFrame
set_option maxRecDepth 100000
theorem row_bt (ps:List TxnP) (h5:∀ p∈ps,p.d.acts.length≤5) {base:Nat} {v:Value}:∃ bt:List TxnQ,bt.length=ps.length∧(∀ p∈bt,TxnQ.n p≤5)∧∀ w,TxnRow base w v ps→txnK.At w v bt:=by
 refine ⟨ps.map (fun p=>⟨p.d.id,p.d.session,p.d.seq,p.sl,p.d.acts⟩),by simp,fun p hp=>?_,fun w h=>?_⟩
 ·obtain ⟨q,hq,rfl⟩:=List.mem_map.1 hp
  exact h5 q hq
 ·obtain ⟨a,c,rfl⟩:=own_shape h.1
  refine ⟨a,c,by simp,?_,fun p hp=>?_⟩
  ·have e:txnK.row (ps.map (fun p=>(⟨p.d.id,p.d.session,p.d.seq,p.sl,p.d.acts⟩:TxnQ)))=txnCells ps:=by
    unfold Kind.row txnCells
    rw [List.flatMap_map]
    rfl
   rw [e]
   exact Lies.own h.1
  ·obtain ⟨q,hq,rfl⟩:=List.mem_map.1 hp
   exact (own_acts (h.2.1 q hq).1).1.at

set_option maxRecDepth 100000 in
set_option maxHeartbeats 8000000 in
theorem drawSetBatch_any (a:Option Addr) (cap:Nat) (zs:List Int) (w:World) (h:Row .u8 w a zs) (hu:∀ i,0≤zs.getD i 0∧zs.getD i 0≤255) (hl:zs.length≤1048576) :
  Calls Tryz.prog 9 #[.slice a zs.length cap] w fun e w' => ∃ (q:InstQ) (vn:Value) (bt:List TxnQ),e=.returned (.tuple #[.agg #[.bool q.has,q.vb,q.vr,q.vd],vn])∧q.n≤1000∧instK.own w' q∧txnK.At w' vn bt∧bt.length + nmL TxnQ.n bt≤1000∧Below w.heap.size w w' := by
 have hb0:Below w.heap.size w (w.alloc (.cells #[.bool false,.slice none 0 0,.slice none 0 0,.slice none 0 0] 28)):=by go_grown
 have R0:=Blk.new w 28 #[.bool false,.slice none 0 0,.slice none 0 0,.slice none 0 0]
 have hW1:w.heap.size < (w.alloc (.cells #[.bool false,.slice none 0 0,.slice none 0 0,.slice none 0 0] 28)).heap.size:=by simp
 have hby:∀ i,i < zs.length→∃ b' off,a=some ⟨b',off,none⟩∧b' < w.heap.size∧(w.alloc (.cells #[.bool false,.slice none 0 0,.slice none 0 0,.slice none 0 0] 28)).cell? ⟨b',off + i,none⟩=some (.int .u8 (zs.getD i 0)):=fun i hi=>by
  obtain ⟨b',off,e1,e2,e3⟩:=h i hi
  exact ⟨b',off,e1,e2,cellB e3 hb0⟩
 go_enter Tryz.func9,Tryz.ntmps9
 go_wp2_with fail
 generalize w.alloc (.cells #[.bool false,.slice none 0 0,.slice none 0 0,.slice none 0 0] 28)=W at *
 refine (source_any w.heap.size a cap zs W hb0.size hl hu hby).mono ?_
 rintro e x1 ⟨rfl,hS,hb1⟩
 replace R0:=R0.below hb1
 replace hb0:=hb0.trans (hb1.mono hb0.size)
 generalize hbb:W.heap.size=b at *
 clear hb1 hby
 obtain ⟨B,HB⟩:∃ B,Hid (w.heap.size=B):=⟨_,rfl⟩
 rw [HB.out] at hS
 clear hbb
 go_wp2_with fail
 refine (l6Bent_any B b 0 x1 hS (by omega)).mono ?_
 rintro e x2 ⟨q,rfl,hn,oq,nq,gq,hSn,hgn⟩
 have hx1:=hS.lt
 have hU:Out [b] _ _:=Out.of_grown hgn
 replace R0:=R0.outs hU (fun hk=>by simp only [List.mem_singleton] at hk;omega)
 replace hb0:=Out.keep hb0 hU hb0.size (fun k hk=>by simp only [List.mem_singleton] at hk;omega)
 replace hS:=hSn
 have hm:=instK.own_lt oq
 clear hSn hgn hU nq
 obtain ⟨ch,cb,cbs,cr,crs,cd,cds⟩:=q
 obtain ⟨c1,c4,rfl⟩:∃ a c,cb=.slice a cbs.length c:=oq.1.shape
 obtain ⟨c2,c5,rfl⟩:∃ a c,cr=.slice a crs.length c:=oq.2.1.shape
 obtain ⟨c3,c6,rfl⟩:∃ a c,cd=.slice a cds.length c:=oq.2.2.shape
 have hbA:Below x2.heap.size x2 (x2.alloc (.cells #[.bool ch,.slice c1 cbs.length c4,.slice c2 crs.length c5,.slice c3 cds.length c6] 28)):=by go_grown
 have Bx:=Blk.new x2 28 #[.bool ch,.slice c1 cbs.length c4,.slice c2 crs.length c5,.slice c3 cds.length c6]
 have hgw:w.heap.size < x2.heap.size:=R0.lt
 have hgb:b < x2.heap.size:=hS.lt.2
 replace R0:=R0.below hbA
 replace hS:=hS.below hbA
 replace hb0:=hb0.trans (hbA.mono hb0.size)
 replace oq:=instK.own_out (F:=[]) oq (Out.of_below hbA) (fun _ _=>by simp)
 have low:∀ k∈instK.foot (⟨ch,.slice c1 cbs.length c4,cbs,.slice c2 crs.length c5,crs,.slice c3 cds.length c6,cds⟩:InstQ),b < k∧k≠x2.heap.size:=fun k hk=>⟨by have:=gq k hk;omega,by have:=hm k hk;omega⟩
 clear hbA gq hm
 go_wp2_with fail
 generalize hgx:x2.heap.size=g at *
 generalize x2.alloc (.cells #[.bool ch,.slice c1 cbs.length c4,.slice c2 crs.length c5,.slice c3 cds.length c6] 28)=X1 at *
 clear hgx
 refine (l6DrawBatch_any B b (0 + 2600) X1 hS (by omega)).mono ?_
 rintro e x3 ⟨vn,ps,rfl,hpl,hba,oT,nT,gT,hSn,hgn⟩
 have hgX:=Bx.lt
 have hU:Out [b] _ _:=Out.of_grown hgn
 replace R0:=R0.outs hU (fun hk=>by simp only [List.mem_singleton] at hk;omega)
 replace Bx:=Bx.outs hU (fun hk=>by simp only [List.mem_singleton] at hk;omega)
 replace hb0:=Out.keep hb0 hU hb0.size (fun k hk=>by simp only [List.mem_singleton] at hk;omega)
 replace hS:=hSn
 replace oq:=instK.own_out oq hU (fun k hk hk' => by simp only [List.mem_singleton] at hk';have:=low k hk;omega)
 clear hSn hgn hU nT
 obtain ⟨ta,tk,rfl⟩:=oT.shape
 go_wp2_with fail
 refine (chance_any B b (0 + 2600 + 50) 4 x3 hS (by omega) (by omega)).mono ?_
 rintro e X ⟨cb9,rfl,hSn,hgn⟩
 have hU:Out [b] _ _:=Out.of_grown hgn
 replace R0:=R0.outs hU (fun hk=>by simp only [List.mem_singleton] at hk;omega)
 replace Bx:=Bx.outs hU (fun hk=>by simp only [List.mem_singleton] at hk;omega)
 replace hb0:=Out.keep hb0 hU hb0.size (fun k hk=>by simp only [List.mem_singleton] at hk;omega)
 replace hS:=hSn
 replace oq:=instK.own_out oq hU (fun k hk hk' => by simp only [List.mem_singleton] at hk';have:=low k hk;omega)
 replace oT:=oT.out hU (fun k hk hk' => by simp only [List.mem_singleton] at hk';have:=gT k hk;omega)
 clear hSn hgn hU
 cases cb9 with
 | false=>
  have Rr:=R0.row #[.bool ch,.slice c1 cbs.length c4,.slice c2 crs.length c5,.slice c3 cds.length c6]
  have hsr:(Tryz.prog.info? 28).map (·.size)=some (#[.bool ch,.slice c1 cbs.length c4,.slice c2 crs.length c5,.slice c3 cds.length c6]:Array Value).size:=sz_inst
  have hUr:=out_row X w.heap.size #[.bool ch,.slice c1 cbs.length c4,.slice c2 crs.length c5,.slice c3 cds.length c6]
  have HQ:Hid (InstQ.n (⟨ch,.slice c1 cbs.length c4,cbs,.slice c2 crs.length c5,crs,.slice c3 cds.length c6,cds⟩:InstQ)≤1000∧instK.own (X.setRow w.heap.size #[.bool ch,.slice c1 cbs.length c4,.slice c2 crs.length c5,.slice c3 cds.length c6]) (⟨ch,.slice c1 cbs.length c4,cbs,.slice c2 crs.length c5,crs,.slice c3 cds.length c6,cds⟩:InstQ)∧Below w.heap.size w (X.setRow w.heap.size #[.bool ch,.slice c1 cbs.length c4,.slice c2 crs.length c5,.slice c3 cds.length c6])):=⟨hn,instK.own_out oq hUr (fun k hk hk' => by simp only [List.mem_singleton] at hk';have:=low k hk;omega),Out.keep hb0 hUr hb0.size (fun k hk=>by simp only [List.mem_singleton] at hk;omega)⟩
  have HT:Hid (txnK.At (X.setRow w.heap.size #[.bool ch,.slice c1 cbs.length c4,.slice c2 crs.length c5,.slice c3 cds.length c6]) (.slice ta ps.length tk) ps∧ps.length + nmL TxnQ.n ps≤1000):=by
   refine ⟨(oT.out hUr (fun k hk hk' => by simp only [List.mem_singleton] at hk';have:=gT k hk;omega)).at,?_⟩
   have:=nmL_bound TxnQ.n 3 ps (fun p hp=>hba p hp)
   omega
  have p0:=Bx.cell 0 _ rfl
  have p1:=Bx.cell 1 _ rfl
  have p2:=Bx.cell 2 _ rfl
  have p3:=Bx.cell 3 _ rfl
  clear oq hb0 hS hUr hn
  go_wp2_with (first | (refine st_row (by kernel_rfl) 28 _ _ rfl _ #[.bool ch,.slice c1 cbs.length c4,.slice c2 crs.length c5,.slice c3 cds.length c6] rfl rfl 28 _ R0 hsr rfl (by simp [Value.oneCell']) ?_))
  have q0:=Rr.cell 0 _ rfl
  have q1:=Rr.cell 1 _ rfl
  have q2:=Rr.cell 2 _ rfl
  have q3:=Rr.cell 3 _ rfl
  exact bodyPost_ret (v:=.tuple #[.agg #[.bool ch,.slice c1 cbs.length c4,.slice c2 crs.length c5,.slice c3 cds.length c6],.slice ta ps.length tk]) (by simp [results,Tryz.results9,go_sem,q0,q1,q2,q3]) rfl ⟨(⟨ch,.slice c1 cbs.length c4,cbs,.slice c2 crs.length c5,crs,.slice c3 cds.length c6,cds⟩:InstQ),_,_,rfl,HQ.out.1,HQ.out.2.1,HT.out.1,HT.out.2,HQ.out.2.2⟩

 | true=>
  go_wp2_with fail
  refine (l2BentMany_any B b (0 + 2600 + 50 + 1) X hS (by omega)).mono ?_
  rintro e x7 ⟨vm,pm,rfl,hpm,hp5,hR,hSn,hgn⟩
  have hXs:=Bx.lt
  have hU:Out [b] _ _:=Out.of_grown hgn
  replace R0:=R0.outs hU (fun hk=>by simp only [List.mem_singleton] at hk;omega)
  replace Bx:=Bx.outs hU (fun hk=>by simp only [List.mem_singleton] at hk;omega)
  replace hb0:=Out.keep hb0 hU hb0.size (fun k hk=>by simp only [List.mem_singleton] at hk;omega)
  replace hS:=hSn
  replace oq:=instK.own_out oq hU (fun k hk hk' => by simp only [List.mem_singleton] at hk';have:=low k hk;omega)
  clear hSn hgn hU oT gT hba
  obtain ⟨bt,hbl,hb5,hbt⟩:=row_bt pm hp5 (base:=X.heap.size) (v:=vm)
  obtain ⟨vma,vmk,rfl⟩:∃ a c,vm=.slice a pm.length c:=own_shape hR.1
  have Rr:=R0.row #[.bool ch,.slice c1 cbs.length c4,.slice c2 crs.length c5,.slice c3 cds.length c6]
  have hsr:(Tryz.prog.info? 28).map (·.size)=some (#[.bool ch,.slice c1 cbs.length c4,.slice c2 crs.length c5,.slice c3 cds.length c6]:Array Value).size:=sz_inst
  have hUr:=out_row x7 w.heap.size #[.bool ch,.slice c1 cbs.length c4,.slice c2 crs.length c5,.slice c3 cds.length c6]
  have HQ:Hid (InstQ.n (⟨ch,.slice c1 cbs.length c4,cbs,.slice c2 crs.length c5,crs,.slice c3 cds.length c6,cds⟩:InstQ)≤1000∧instK.own (x7.setRow w.heap.size #[.bool ch,.slice c1 cbs.length c4,.slice c2 crs.length c5,.slice c3 cds.length c6]) (⟨ch,.slice c1 cbs.length c4,cbs,.slice c2 crs.length c5,crs,.slice c3 cds.length c6,cds⟩:InstQ)∧Below w.heap.size w (x7.setRow w.heap.size #[.bool ch,.slice c1 cbs.length c4,.slice c2 crs.length c5,.slice c3 cds.length c6])):=⟨hn,instK.own_out oq hUr (fun k hk hk' => by simp only [List.mem_singleton] at hk';have:=low k hk;omega),Out.keep hb0 hUr hb0.size (fun k hk=>by simp only [List.mem_singleton] at hk;omega)⟩
  have HT:Hid (txnK.At (x7.setRow w.heap.size #[.bool ch,.slice c1 cbs.length c4,.slice c2 crs.length c5,.slice c3 cds.length c6]) (.slice vma pm.length vmk) bt∧bt.length + nmL TxnQ.n bt≤1000):=by
   refine ⟨hbt (x7.setRow w.heap.size #[.bool ch,.slice c1 cbs.length c4,.slice c2 crs.length c5,.slice c3 cds.length c6]) (TxnRow.out hR hUr (fun k hk=>by simp only [List.mem_singleton] at hk;omega)),?_⟩
   have:=nmL_bound TxnQ.n 5 bt hb5
   omega
  have p0:=Bx.cell 0 _ rfl
  have p1:=Bx.cell 1 _ rfl
  have p2:=Bx.cell 2 _ rfl
  have p3:=Bx.cell 3 _ rfl
  clear oq hb0 hS hUr hn
  go_wp2_with (first | (refine st_row (by kernel_rfl) 28 _ _ rfl _ #[.bool ch,.slice c1 cbs.length c4,.slice c2 crs.length c5,.slice c3 cds.length c6] rfl rfl 28 _ R0 hsr rfl (by simp [Value.oneCell']) ?_))
  have q0:=Rr.cell 0 _ rfl
  have q1:=Rr.cell 1 _ rfl
  have q2:=Rr.cell 2 _ rfl
  have q3:=Rr.cell 3 _ rfl
  exact bodyPost_ret (v:=.tuple #[.agg #[.bool ch,.slice c1 cbs.length c4,.slice c2 crs.length c5,.slice c3 cds.length c6],(.slice vma pm.length vmk)]) (by simp [results,Tryz.results9,go_sem,q0,q1,q2,q3]) rfl ⟨(⟨ch,.slice c1 cbs.length c4,cbs,.slice c2 crs.length c5,crs,.slice c3 cds.length c6,cds⟩:InstQ),_,_,rfl,HQ.out.1,HQ.out.2.1,HT.out.1,HT.out.2,HQ.out.2.2⟩

end Go.Proofs.YtpjmlidbligcbaaGreatDoor
namespace Go.Proofs.YtpjmlidbligcbaaGreatDoor
open Go.RowKit
open Go.BigFrame
set_option maxRecDepth 100000
def sameA (x y:ActD):Bool:=(x.kind == y.kind) && ((x.key == y.key) && (x.val == y.val))

def sameAs:List ActD→List ActD→Bool
 | [],[]=>true
 | x :: r,y :: s=>sameA x y && sameAs r s
 | _,_=>false

def sameT (x y:TxnD):Bool:=(x.id == y.id) && (x.session == y.session) && (x.seq == y.seq) && sameAs x.acts y.acts

def sameTs:List TxnD→List TxnD→Bool
 | [],[]=>true
 | x :: r,y :: s=>sameT x y && sameTs r s
 | _,_=>false

/-- A comparison of two lists, place by place. -/
theorem same_len {α:Type} {f:α→α→Bool} {g:List α→List α→Bool} (h0:g [] []=true) (h1:∀ x r y s,g (x :: r) (y :: s)=(f x y && g r s)) (h2:∀ x r,g (x :: r) []=false) (h3:∀ y s,g [] (y :: s)=false) :
  ∀ a b,a.length≠b.length→g a b=false:=by
 intro a
 induction a with
 | nil=>intro b h;cases b with | nil=>simp at h | cons y s=>exact h3 y s
 | cons x r ih=>intro b h;cases b with | nil=>exact h2 x r | cons y s=>rw [h1,ih s (by simpa using h)];simp

theorem same_bad {α:Type} {f:α→α→Bool} {g:List α→List α→Bool} (d:α) (h1:∀ x r y s,g (x :: r) (y :: s)=(f x y && g r s)) :
  ∀ a b k,a.length=b.length→k < a.length→f (a.getD k d) (b.getD k d)=false→g a b=false:=by
 intro a
 induction a with
 | nil=>intro b k _ h;simp at h
 | cons x r ih=>
  intro b k hl hk hf
  cases b with
  | nil=>simp at hl
  | cons y s=>
   rw [h1]
   cases k with
   | zero=>simp [List.getD] at hf;simp [hf]
   | succ k=>rw [ih s k (by simpa using hl) (by simpa using hk) (by simpa [List.getD] using hf)];simp

theorem same_all {α:Type} {f:α→α→Bool} {g:List α→List α→Bool} (d:α) (h0:g [] []=true) (h1:∀ x r y s,g (x :: r) (y :: s)=(f x y && g r s)) :
  ∀ a b,a.length=b.length→(∀ k,k < a.length→f (a.getD k d) (b.getD k d)=true)→g a b=true:=by
 intro a
 induction a with
 | nil=>intro b hl _;cases b with | nil=>exact h0 | cons y s=>simp at hl
 | cons x r ih=>
  intro b hl hf
  cases b with
  | nil=>simp at hl
  | cons y s=>
   rw [h1,ih s (by simpa using hl) (fun k hk=>by simpa [List.getD] using hf (k + 1) (by simpa using hk))]
   have:=hf 0 (by simp)
   simp [List.getD] at this
   simp [this]

theorem eqAct_run (x0 x1 x2 y0 y1 y2:Int) (w:World):(binOp .neq 195 (.agg #[.int .i64 x0,.int .i64 x1,.int .i64 x2]) (.agg #[.int .i64 y0,.int .i64 y1,.int .i64 y2])).run Tryz.prog w=.ok (.bool (!sameA ⟨x0,x1,x2⟩ ⟨y0,y1,y2⟩)) w:=by
 rw [run_neq_struct,run_equalIn_struct (P:=Tryz.prog) w 9999 195 _ _ (by kernel_rfl) (by kernel_rfl)]
 have c1:Tryz.prog.cellsOf 2=1:=by kernel_rfl
 cases h0:(x0 == y0) <;> cases h1:(x1 == y1) <;> cases h2:(x2 == y2) <;> simp [Program.fieldsOf,Tryz.underlying195,Op.eqFields,go_sem,Tryz.underlying2,h0,h1,h2,sameA,c1]

set_option maxRecDepth 100000 in
set_option maxHeartbeats 2000000 in
theorem equalA_any (a a' : Option Addr) (cap cap' : Nat) (xs ys:List ActD) (w:World) (h:ActRow w a xs) (h' : ActRow w a' ys) (hl:xs.length≤1048576) (hl' : ys.length≤1048576) :
  Calls Tryz.prog 152 #[.slice a xs.length cap,.slice a' ys.length cap'] w fun e w' => e=.returned (.bool (sameAs xs ys))∧Below w.heap.size w w' := by
 by_cases hlen:xs.length=ys.length
 case neg=>
  have E:sameAs xs ys=false:=same_len (f:=sameA) rfl (fun _ _ _ _=>rfl) (fun _ _=>rfl) (fun _ _=>rfl) xs ys hlen
  rw [E]
  have hd:((xs.length:Int) != (ys.length:Int))=true:=by simp;omega
  go_enter Tryz.func152,Tryz.ntmps152
  go_wp2
  go_ret
  exact ⟨rfl,Below.refl _ _⟩
 case pos=>
  have hd:((xs.length:Int) != (ys.length:Int))=false:=by simp [hlen]
  have HL:Hid (xs.length=ys.length):=hlen
  clear hlen
  go_enter Tryz.func152,Tryz.ntmps152
  go_wp2
  go_loopw [13] (fun i wr=>∃ k m:Nat,k≤xs.length∧i=.int .i64 k∧wr=w.drewN m∧Hid (∀ j,j < k→sameA (xs.getD j actNo) (ys.getD j actNo)=true)) (fun i _=>xs.length - (intOf i).toNat)
  case atStart=>exact ⟨0,0,Nat.zero_le _,rfl,rfl,fun j hj=>absurd hj (Nat.not_lt_zero _)⟩
  case round=>
   obtain ⟨k,m,hk,rfl,rfl,HA⟩:=hrel
   by_cases hlt:k < xs.length
   ·have hlt' : k < ys.length:=by have:=HL.out;omega
    obtain ⟨b,off,rfl,hbs,hc0,hc1,hc2⟩:=h.at k hlt
    obtain ⟨b',off',rfl,hbs',hd0,hd1,hd2⟩:=h'.at k hlt'
    cases hs:sameA (xs.getD k actNo) (ys.getD k actNo)
    case false=>
     have E:Hid (sameAs xs ys=false):=same_bad (f:=sameA) actNo (fun _ _ _ _=>rfl) xs ys k HL.out hlt hs
     have hr:=eqAct_run (xs.getD k actNo).kind (xs.getD k actNo).key (xs.getD k actNo).val (ys.getD k actNo).kind (ys.getD k actNo).key (ys.getD k actNo).val
     rw [show sameA ⟨(xs.getD k actNo).kind,(xs.getD k actNo).key,(xs.getD k actNo).val⟩ ⟨(ys.getD k actNo).kind,(ys.getD k actNo).key,(ys.getD k actNo).val⟩=false from hs,Bool.not_false] at hr
     clear HA hs
     generalize xs.getD k actNo=z at hc0 hc1 hc2 hr
     generalize ys.getD k actNo=z' at hd0 hd1 hd2 hr
     go_wp2
     go_quiet (fail)
     go_wp2
     go_ret
     rw [E.out]
     exact ⟨rfl,⟨rfl,rfl,rfl,Nat.le_refl _,fun _ _=>rfl⟩⟩
    case true=>
     have HB:Hid (∀ j,j < k + 1→sameA (xs.getD j actNo) (ys.getD j actNo)=true):=by
      intro j hj
      by_cases hjk:j=k
      ·subst hjk;exact hs
      ·exact HA.out j (by omega)
     have hr:=eqAct_run (xs.getD k actNo).kind (xs.getD k actNo).key (xs.getD k actNo).val (ys.getD k actNo).kind (ys.getD k actNo).key (ys.getD k actNo).val
     rw [show sameA ⟨(xs.getD k actNo).kind,(xs.getD k actNo).key,(xs.getD k actNo).val⟩ ⟨(ys.getD k actNo).kind,(ys.getD k actNo).key,(ys.getD k actNo).val⟩=true from hs,Bool.not_true] at hr
     clear HA hs
     generalize xs.getD k actNo=z at hc0 hc1 hc2 hr
     generalize ys.getD k actNo=z' at hd0 hd1 hd2 hr
     go_wp2
     go_quiet (fail)
     go_wp2
     go_roundw
     case rel=>exact ⟨k + 1,_,by omega,by go_num,rfl,HB⟩
     case measure=>simp [intOf];omega
   ·have E:Hid (sameAs xs ys=true):=same_all (f:=sameA) actNo rfl (fun _ _ _ _=>rfl) xs ys HL.out (fun j hj=>HA.out j (by omega))
    clear HA
    go_wp2
    go_ret
    rw [E.out]
    exact ⟨rfl,⟨rfl,rfl,rfl,Nat.le_refl _,fun _ _=>rfl⟩⟩

theorem sameT_ways (x y:TxnD):((x.id == y.id)=false∧sameT x y=false)∨((x.id == y.id)=true∧(x.session == y.session)=false∧sameT x y=false)∨((x.id == y.id)=true∧(x.session == y.session)=true∧(x.seq == y.seq)=false∧sameT x y=false) ∨
  ((x.id == y.id)=true∧(x.session == y.session)=true∧(x.seq == y.seq)=true∧sameT x y=sameAs x.acts y.acts):=by
 unfold sameT
 cases h1:(x.id == y.id) <;> cases h2:(x.session == y.session) <;> cases h3:(x.seq == y.seq) <;> simp

set_option maxRecDepth 100000 in
set_option maxHeartbeats 2000000 in
theorem isSameTxn_any (x y:TxnD) (a a' : Option Addr) (cap cap' : Nat) (w:World) (h:ActRow w a x.acts) (h' : ActRow w a' y.acts) (hl:x.acts.length≤1048576) (hl' : y.acts.length≤1048576) :
    Calls Tryz.prog 81 #[.agg #[.int .i64 x.id,.int .i64 x.session,.int .i64 x.seq,.slice a x.acts.length cap],.agg #[.int .i64 y.id,.int .i64 y.session,.int .i64 y.seq,.slice a' y.acts.length cap']] w fun e w' => e=.returned (.bool (sameT x y))∧Below w.heap.size w w' := by
  have hq:=fun w h h' => equalA_any a a' cap cap' x.acts y.acts w h h' hl hl'
  rcases sameT_ways x y with ⟨h1,e⟩ | ⟨h1,h2,e⟩ | ⟨h1,h2,h3,e⟩ | ⟨h1,h2,h3,e⟩ <;> rw [e] <;> clear e
  all_goals
    (generalize sameAs x.acts y.acts=r at hq
     obtain ⟨x0,x1,x2,xs⟩:=x
     obtain ⟨y0,y1,y2,ys⟩:=y
     dsimp only at *)
  all_goals
    (go_enter Tryz.func81,Tryz.ntmps81
     go_wp2_with (go_at_call 152;refine (hq _ (h.below (by go_grown)) (h'.below (by go_grown))).mono ?_;rintro e w' ⟨rfl,hb⟩)
     go_ret)
  · exact ⟨rfl,by go_grown⟩
  · exact ⟨rfl,by go_grown⟩
  · exact ⟨rfl,by go_grown⟩
  · exact ⟨rfl,below_from (by go_grown) hb⟩

end Go.Proofs.YtpjmlidbligcbaaGreatDoor
namespace Go.Proofs.YtpjmlidbligcbaaGreatDoor
open Go.RowKit
open Go.BigFrame
set_option maxRecDepth 100000
set_option maxRecDepth 100000 in
set_option maxHeartbeats 2000000 in
theorem equalFunc_any (v v' : Value) (xs ys:List TxnD) (w:World) (h:TxnsAt w v xs) (h' : TxnsAt w v' ys) (hl:xs.length + sumA xs≤1048576) (hl' : ys.length + sumA ys≤1048576) :
  Calls Tryz.prog 80 #[v,v',.func (.func 81) #[] #[]] w fun e w' => e=.returned (.bool (sameTs xs ys))∧Below w.heap.size w w' := by
 obtain ⟨a,cap,rfl⟩:=h.shape
 obtain ⟨a',cap',rfl⟩:=h'.shape
 by_cases hlen:xs.length=ys.length
 case neg=>
  have E:sameTs xs ys=false:=same_len (f:=sameT) rfl (fun _ _ _ _=>rfl) (fun _ _=>rfl) (fun _ _=>rfl) xs ys hlen
  rw [E]
  have hd:((xs.length:Int) != (ys.length:Int))=true:=by simp;omega
  go_enter Tryz.func80,Tryz.ntmps80
  go_wp2
  go_ret
  exact ⟨rfl,Below.refl _ _⟩
 case pos=>
  have hd:((xs.length:Int) != (ys.length:Int))=false:=by simp [hlen]
  have HL:Hid (xs.length=ys.length):=hlen
  clear hlen
  go_enter Tryz.func80,Tryz.ntmps80
  go_wp2
  go_loopw [17] (fun i wr=>∃ k:Nat,k≤xs.length∧i=.int .i64 k∧Below w.heap.size w wr∧Hid (∀ j,j < k→sameT (xs.getD j txnNo) (ys.getD j txnNo)=true)) (fun i _=>xs.length - (intOf i).toNat)
  case atStart=>exact ⟨0,Nat.zero_le _,rfl,Below.refl _ _,fun j hj=>absurd hj (Nat.not_lt_zero _)⟩
  case round=>
   obtain ⟨k,hk,rfl,hb,HA⟩:=hrel
   by_cases hlt:k < xs.length
   ·have hlt' : k < ys.length:=by have:=HL.out;omega
    obtain ⟨b,off,aa,cc,rfl,hbs,hc0,hc1,hc2,hc3,hA⟩:=(h.below hb).at k hlt
    obtain ⟨b',off',aa',cc',rfl,hbs',hd0,hd1,hd2,hd3,hA'⟩:=(h'.below hb).at k hlt'
    have hzl:(xs.getD k txnNo).acts.length≤sumA xs:=mem_le_sumA (by simp [List.getD,hlt])
    have hzl' : (ys.getD k txnNo).acts.length≤sumA ys:=mem_le_sumA (by simp [List.getD,hlt'])
    have hq:=fun w h h' => isSameTxn_any (xs.getD k txnNo) (ys.getD k txnNo) aa aa' cc cc' w h h' (by omega) (by omega)
    have hs5:=hb.size
    have hal:∀ (o:Obj) (j:Nat),(wr.alloc o).cell? ⟨b',j,none⟩=wr.cell? ⟨b',j,none⟩:=fun o j=>(show Below wr.heap.size wr (wr.alloc o) by go_grown).cell (p:=⟨b',j,none⟩) hbs'
    cases hs:sameT (xs.getD k txnNo) (ys.getD k txnNo)
    case false=>
     have E:Hid (sameTs xs ys=false):=same_bad (f:=sameT) txnNo (fun _ _ _ _=>rfl) xs ys k HL.out hlt hs
     rw [hs] at hq
     clear HA hs
     generalize xs.getD k txnNo=z at hc0 hc1 hc2 hc3 hA hq hzl
     generalize ys.getD k txnNo=z' at hd0 hd1 hd2 hd3 hA' hq hzl'
     obtain ⟨z0,z1,z2,zs⟩:=z
     obtain ⟨y0,y1,y2,us⟩:=z'
     dsimp only at hc0 hc1 hc2 hc3 hA hd0 hd1 hd2 hd3 hA' hq hzl hzl'
     go_wp2_with fail
     refine (hq _ (hA.below (by go_grown)) (hA'.below (by go_grown))).mono ?_
     rintro e w2 ⟨rfl,hb2⟩
     go_wp2
     go_ret
     rw [E.out]
     exact ⟨rfl,below_from (below_from hb (by go_grown)) hb2⟩
    case true=>
     have HB:Hid (∀ j,j < k + 1→sameT (xs.getD j txnNo) (ys.getD j txnNo)=true):=by
      intro j hj
      by_cases hjk:j=k
      ·subst hjk;exact hs
      ·exact HA.out j (by omega)
     rw [hs] at hq
     clear HA hs
     generalize xs.getD k txnNo=z at hc0 hc1 hc2 hc3 hA hq hzl
     generalize ys.getD k txnNo=z' at hd0 hd1 hd2 hd3 hA' hq hzl'
     obtain ⟨z0,z1,z2,zs⟩:=z
     obtain ⟨y0,y1,y2,us⟩:=z'
     dsimp only at hc0 hc1 hc2 hc3 hA hd0 hd1 hd2 hd3 hA' hq hzl hzl'
     go_wp2_with fail
     refine (hq _ (hA.below (by go_grown)) (hA'.below (by go_grown))).mono ?_
     rintro e w2 ⟨rfl,hb2⟩
     have hb3:=below_from (below_from hb (by go_grown)) hb2
     clear hb2 hal hc0 hc1 hc2 hc3 hd0 hd1 hd2 hd3 hA hA' hq
     go_wp2
     go_roundw
     case rel=>exact ⟨k + 1,by omega,by go_num,hb3,HB⟩
     case measure=>simp [intOf];omega
   ·have E:Hid (sameTs xs ys=true):=same_all (f:=sameT) txnNo rfl (fun _ _ _ _=>rfl) xs ys HL.out (fun j hj=>HA.out j (by omega))
    clear HA
    go_wp2
    go_ret
    rw [E.out]
    exact ⟨rfl,hb⟩

set_option maxRecDepth 100000 in
set_option maxHeartbeats 1000000 in
theorem implSameTxns_any (v v' : Value) (xs ys:List TxnD) (w:World) (h:TxnsAt w v xs) (h' : TxnsAt w v' ys) (hl:xs.length + sumA xs≤1048576) (hl' : ys.length + sumA ys≤1048576) :
  Calls Tryz.prog 19 #[v,v'] w fun e w' => e=.returned (.bool (sameTs xs ys))∧Below w.heap.size w w' := by
 have hq:=equalFunc_any v v' xs ys w h h' hl hl'
 generalize sameTs xs ys=r at hq
 go_enter Tryz.func19,Tryz.ntmps19
 go_wp2_with fail
 refine hq.mono ?_
 rintro e w2 ⟨rfl,hb⟩
 go_wp2
 go_ret
 exact ⟨rfl,hb⟩

end Go.Proofs.YtpjmlidbligcbaaGreatDoor

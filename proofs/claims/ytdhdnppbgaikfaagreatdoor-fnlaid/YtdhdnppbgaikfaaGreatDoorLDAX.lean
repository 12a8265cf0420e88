/- Texts joined, with what the laws reach alone. -/
import Derived.Test.YtdhdnppbgaikfaaGreatDoorLDAV
import Derived.Test.YtdhdnppbgaikfaaGreatDoorLDAW
import Derived.Deep.Onto
import Derived.RangeFuncNested
import Derived.RangeFuncBound
import Derived.RangeFuncCalls
import Derived.RangeFuncLeaves
import Derived.RangeFuncWrites
import Derived.Shelf.Abstract
import Derived.Shelf.RegionOpen
import Derived.OwnWalkIn
import Derived.TacticsInMore
import Derived.LoopNIn
import Derived.LoopIn
import Derived.Stop.Asserts
set_option linter.unusedVariables false
set_option linter.unusedSimpArgs false
namespace Go.Proofs.YtdhdnppbgaikfaaGreatDoor
open Go.RowKit
open Go.BigFrame
set_option maxRecDepth 100000
set_option maxRecDepth 100000 in
set_option maxHeartbeats 8000000 in
theorem drawVotesOf_any (a:Option Addr) (cap:Nat) (zs:List Int) (w:World) (h:Row .u8 w a zs) (hu:∀ i,0≤zs.getD i 0∧zs.getD i 0≤255) (hl:zs.length≤1048576) :
  Calls Tryz.prog 5 #[.slice a zs.length cap] w fun e w' => ∃ q:InstQ,e=.returned (.agg #[.bool q.has,q.vb,q.vr,q.vd])∧q.n≤1000∧instK.own w' q∧Below w.heap.size w w' := by
 have hb0:Below w.heap.size w (w.alloc (.cells #[.bool false,.slice none 0 0,.slice none 0 0,.slice none 0 0] 28)):=by go_grown
 have R0:=Blk.new w 28 #[.bool false,.slice none 0 0,.slice none 0 0,.slice none 0 0]
 have hW1:w.heap.size < (w.alloc (.cells #[.bool false,.slice none 0 0,.slice none 0 0,.slice none 0 0] 28)).heap.size:=by simp
 have hby:∀ i,i < zs.length→∃ b' off,a=some ⟨b',off,none⟩∧b' < w.heap.size∧(w.alloc (.cells #[.bool false,.slice none 0 0,.slice none 0 0,.slice none 0 0] 28)).cell? ⟨b',off + i,none⟩=some (.int .u8 (zs.getD i 0)):=fun i hi=>by
  obtain ⟨b',off,e1,e2,e3⟩:=h i hi
  exact ⟨b',off,e1,e2,cellB e3 hb0⟩
 go_enter Tryz.func5,Tryz.ntmps5
 go_wp2_with fail
 generalize w.alloc (.cells #[.bool false,.slice none 0 0,.slice none 0 0,.slice none 0 0] 28)=W at *
 refine (source_any w.heap.size a cap zs W hb0.size hl hu hby).mono ?_
 rintro e x1 ⟨rfl,hS,hb1⟩
 replace R0:=R0.below hb1
 replace hb0:=hb0.trans (hb1.mono hb0.size)
 generalize hbb:W.heap.size=b at *
 clear hb1 hby
 obtain ⟨B,HB⟩:∃ B,Hid (w.heap.size=B):=⟨_,rfl⟩
 rw [HB.out] at hS
 clear hbb
 go_wp2_with fail
 refine (l6Bent_any B b 0 x1 hS (by omega)).mono ?_
 rintro e x2 ⟨q,rfl,hn,oq,nq,gq,hSn,hgn⟩
 have hx1:=hS.lt
 have hU:Out [b] _ _:=Out.of_grown hgn
 replace R0:=R0.outs hU (fun hk=>by simp only [List.mem_singleton] at hk;omega)
 replace hb0:=Out.keep hb0 hU hb0.size (fun k hk=>by simp only [List.mem_singleton] at hk;omega)
 have hsz:=hU.size
 replace hS:=hSn
 clear hSn hgn hU
 obtain ⟨ch,cb,cbs,cr,crs,cd,cds⟩:=q
 obtain ⟨c1,c4,rfl⟩:∃ a c,cb=.slice a cbs.length c:=oq.1.shape
 obtain ⟨c2,c5,rfl⟩:∃ a c,cr=.slice a crs.length c:=oq.2.1.shape
 obtain ⟨c3,c6,rfl⟩:∃ a c,cd=.slice a cds.length c:=oq.2.2.shape
 have Rr:=R0.row #[.bool ch,.slice c1 cbs.length c4,.slice c2 crs.length c5,.slice c3 cds.length c6]
 have hU:=out_row x2 w.heap.size #[.bool ch,.slice c1 cbs.length c4,.slice c2 crs.length c5,.slice c3 cds.length c6]
 have hb9:=below_row hb0 (g:=w.heap.size) (Nat.le_refl _) #[.bool ch,.slice c1 cbs.length c4,.slice c2 crs.length c5,.slice c3 cds.length c6]
 have oz:=instK.own_out oq hU (fun k hk=>by have:=gq k hk;simp only [List.mem_singleton];omega)
 have hsr:(Tryz.prog.info? 28).map (·.size)=some (#[.bool ch,.slice c1 cbs.length c4,.slice c2 crs.length c5,.slice c3 cds.length c6]:Array Value).size:=by kernel_rfl
 go_wp2_with (refine st_row (by kernel_rfl) 28 _ _ rfl _ #[.bool ch,.slice c1 cbs.length c4,.slice c2 crs.length c5,.slice c3 cds.length c6] rfl rfl 28 _ R0 hsr rfl (by simp [Value.oneCell']) ?_)
 obtain ⟨r0,r1,r2,r3⟩:=Rr.cel4
 exact bodyPost_ret (v:=.agg #[.bool ch,.slice c1 cbs.length c4,.slice c2 crs.length c5,.slice c3 cds.length c6]) (by simp [results,Tryz.results5,go_sem,r0,r1,r2,r3]) rfl ⟨(⟨ch,.slice c1 cbs.length c4,cbs,.slice c2 crs.length c5,crs,.slice c3 cds.length c6,cds⟩:InstQ),rfl,hn,oz,hb9⟩

set_option maxRecDepth 100000 in
set_option maxHeartbeats 16000000 in
theorem drawLayVotes_any (a:Option Addr) (cap:Nat) (zs:List Int) (w:World) (h:Row .u8 w a zs) (hu:∀ i,0≤zs.getD i 0∧zs.getD i 0≤255) (hl:zs.length≤1048576) :
  Calls Tryz.prog 7 #[.slice a zs.length cap] w fun e w' => ∃ (q:InstQ) (va:Option Addr) (vc:Nat) (L:List VoteD),e=.returned (.tuple #[.agg #[.bool q.has,q.vb,q.vr,q.vd],.slice va L.length vc])∧q.n≤1048576∧instK.own w' q∧w'.ownsRow w.heap.size 44 4 (.slice va L.length vc) L.length (voteCells L)∧L.length≤1048576∧Below w.heap.size w w' := by
 obtain ⟨i0,hi,hz0,hz1,hz2⟩:=info_parts infoVote
 have hb0:Below w.heap.size w (w.alloc (.cells #[.bool false,.slice none 0 0,.slice none 0 0,.slice none 0 0] 28)):=by go_grown
 have R0:=Blk.new w 28 #[.bool false,.slice none 0 0,.slice none 0 0,.slice none 0 0]
 have hW1:w.heap.size < (w.alloc (.cells #[.bool false,.slice none 0 0,.slice none 0 0,.slice none 0 0] 28)).heap.size:=by simp
 have hby:∀ i,i < zs.length→∃ b' off,a=some ⟨b',off,none⟩∧b' < w.heap.size∧(w.alloc (.cells #[.bool false,.slice none 0 0,.slice none 0 0,.slice none 0 0] 28)).cell? ⟨b',off + i,none⟩=some (.int .u8 (zs.getD i 0)):=fun i hi=>by
  obtain ⟨b',off,e1,e2,e3⟩:=h i hi
  exact ⟨b',off,e1,e2,cellB e3 hb0⟩
 go_enter Tryz.func7,Tryz.ntmps7
 go_wp2_with fail
 generalize w.alloc (.cells #[.bool false,.slice none 0 0,.slice none 0 0,.slice none 0 0] 28)=W at *
 refine (source_any w.heap.size a cap zs W hb0.size hl hu hby).mono ?_
 rintro e x1 ⟨rfl,hS,hb1⟩
 replace R0:=R0.below hb1
 replace hb0:=hb0.trans (hb1.mono hb0.size)
 generalize hbb:W.heap.size=b at *
 clear hb1 hby
 obtain ⟨B,HB⟩:∃ B,Hid (w.heap.size=B):=⟨_,rfl⟩
 rw [HB.out] at hS
 clear hbb
 go_wp2_with fail
 refine (l6Draw_any B b 0 30 x1 hS (by omega) (by omega)).mono ?_
 rintro e x2 ⟨q,rfl,h0,oq,nq,gq,hSn,hgn⟩
 have hx1:=hS.lt
 have hgw:w.heap.size < b:=by have:=HB.out;omega
 have hU:Out [b] _ _:=Out.of_grown hgn
 replace R0:=R0.outs hU (fun hk=>by simp only [List.mem_singleton] at hk;omega)
 replace hb0:=Out.keep hb0 hU hb0.size (fun k hk=>by simp only [List.mem_singleton] at hk;omega)
 have hsz:=hU.size
 replace hS:=hSn
 clear hSn hgn hU
 have uq:∀ k∈instK.foot q,b < k∧k < x2.heap.size:=fun k hk=>⟨by have:=gq k hk;omega,instK.own_lt oq k hk⟩
 have hnq:q.n≤1048576:=by rw [inst_ne];have:=ins_small h0;omega
 clear gq
 obtain ⟨ch,cb,cbs,cr,crs,cd,cds⟩:=q
 obtain ⟨c1,c4,rfl⟩:∃ a c,cb=.slice a cbs.length c:=oq.1.shape
 obtain ⟨c2,c5,rfl⟩:∃ a c,cr=.slice a crs.length c:=oq.2.1.shape
 obtain ⟨c3,c6,rfl⟩:∃ a c,cd=.slice a cds.length c:=oq.2.2.shape
 have Bx:=Blk.new x2 28 #[.bool ch,.slice c1 cbs.length c4,.slice c2 crs.length c5,.slice c3 cds.length c6]
 have hbA:Below x2.heap.size x2 (x2.alloc (.cells #[.bool ch,.slice c1 cbs.length c4,.slice c2 crs.length c5,.slice c3 cds.length c6] 28)):=by go_grown
 have hgb2:=hS.lt
 replace R0:=R0.below hbA
 replace oq:=instK.own_out (F:=[]) oq (Out.of_below hbA) (fun _ _=>by simp)
 replace hS:=hS.below hbA
 replace hb0:=hb0.trans (hbA.mono hb0.size)
 clear hbA
 obtain ⟨p0,p1,p2,p3⟩:=Bx.cel4
 go_wp2_with fail
 clear p0 p1 p2 p3
 have hgxl:=Bx.lt
 generalize x2.alloc (.cells #[.bool ch,.slice c1 cbs.length c4,.slice c2 crs.length c5,.slice c3 cds.length c6] 28)=X at *
 generalize x2.heap.size=gx at *
 refine (l6Turn_any B b (0 + 2500) (⟨ch,.slice c1 cbs.length c4,cbs,.slice c2 crs.length c5,crs,.slice c3 cds.length c6,cds⟩:InstQ) X hS (by omega) oq nq h0 (fun hk=>by have:=uq b hk;omega)).mono ?_
 rintro e x3 ⟨q1,rfl,h1,o1,n1,f1,hSn,hgn⟩
 have hU:Out [b] _ _:=Out.of_grown hgn
 replace R0:=R0.outs hU (fun hk=>by simp only [List.mem_singleton] at hk;omega)
 replace Bx:=Bx.outs hU (fun hk=>by simp only [List.mem_singleton] at hk;omega)
 replace oq:=instK.own_out oq hU (fun k hk=>by have:=uq k hk;simp only [List.mem_singleton];omega)
 replace hb0:=Out.keep hb0 hU hb0.size (fun k hk=>by simp only [List.mem_singleton] at hk;omega)
 have hsz:=hU.size
 replace hS:=hSn
 clear hSn hgn hU
 have u1:∀ k∈instK.foot q1,b < k∧k < x3.heap.size∧k≠gx:=fun k hk=>by
  have h9:=instK.own_lt o1 k hk
  rcases f1 k hk with h | h
  ·have:=uq k h;omega
  ·have:=hgb2.2;omega
 clear f1
 have hx3:=hS.lt
 go_wp2_with fail
 refine (l6Turn_any B b (0 + 2500 + 60) q1 x3 hS (by omega) o1 n1 h1 (fun hk=>by have:=u1 b hk;omega)).mono ?_
 rintro e x4 ⟨q2,rfl,h2,o2,n2,f2,hSn,hgn⟩
 have hU:Out [b] _ _:=Out.of_grown hgn
 replace R0:=R0.outs hU (fun hk=>by simp only [List.mem_singleton] at hk;omega)
 replace Bx:=Bx.outs hU (fun hk=>by simp only [List.mem_singleton] at hk;omega)
 replace oq:=instK.own_out oq hU (fun k hk=>by have:=uq k hk;simp only [List.mem_singleton];omega)
 replace hb0:=Out.keep hb0 hU hb0.size (fun k hk=>by simp only [List.mem_singleton] at hk;omega)
 have hsz:=hU.size
 replace hS:=hSn
 clear hSn hgn hU
 have u2:∀ k∈instK.foot q2,b < k∧k < x4.heap.size:=fun k hk=>by
  have h9:=instK.own_lt o2 k hk
  rcases f2 k hk with h | h
  ·have:=u1 k h;omega
  ·have:=hx3.2;omega
 clear f2 o1 n1 h1 u1
 obtain ⟨yh,yb,ybs,yr,yrs,yd,yds⟩:=q2
 obtain ⟨y1,y4,rfl⟩:∃ a c,yb=.slice a ybs.length c:=o2.1.shape
 obtain ⟨y2,y5,rfl⟩:∃ a c,yr=.slice a yrs.length c:=o2.2.1.shape
 obtain ⟨y3,y6,rfl⟩:∃ a c,yd=.slice a yds.length c:=o2.2.2.shape
 have By:=Blk.new x4 28 #[.bool yh,.slice y1 ybs.length y4,.slice y2 yrs.length y5,.slice y3 yds.length y6]
 have hbA:Below x4.heap.size x4 (x4.alloc (.cells #[.bool yh,.slice y1 ybs.length y4,.slice y2 yrs.length y5,.slice y3 yds.length y6] 28)):=by go_grown
 replace R0:=R0.below hbA
 replace Bx:=Bx.below hbA
 replace oq:=instK.own_out (F:=[]) oq (Out.of_below hbA) (fun _ _=>by simp)
 replace o2:=instK.own_out (F:=[]) o2 (Out.of_below hbA) (fun _ _=>by simp)
 replace hS:=hS.below hbA
 replace hb0:=hb0.trans (hbA.mono hb0.size)
 clear hbA
 have hP:InstP (x4.alloc (.cells #[.bool yh,.slice y1 ybs.length y4,.slice y2 yrs.length y5,.slice y3 yds.length y6] 28)) x4.heap.size 0 (⟨yh,.slice y1 ybs.length y4,ybs,.slice y2 yrs.length y5,yrs,.slice y3 yds.length y6,yds⟩:InstQ):=⟨⟨By.cell 0 _ rfl,By.cell 1 _ rfl,By.cell 2 _ rfl,By.cell 3 _ rfl⟩,instK.own_rd o2⟩
 have hFr:Frm (⟨yh,.slice y1 ybs.length y4,ybs,.slice y2 yrs.length y5,yrs,.slice y3 yds.length y6,yds⟩:InstQ).e.rounds (⟨yh,.slice y1 ybs.length y4,ybs,.slice y2 yrs.length y5,yrs,.slice y3 yds.length y6,yds⟩:InstQ).e.dec:=frm_of h2
 have hvl:(vtI (⟨yh,.slice y1 ybs.length y4,ybs,.slice y2 yrs.length y5,yrs,.slice y3 yds.length y6,yds⟩:InstQ).e).length≤100:=by have:=voL_len (⟨yh,.slice y1 ybs.length y4,ybs,.slice y2 yrs.length y5,yrs,.slice y3 yds.length y6,yds⟩:InstQ).e;rw [show voL (⟨yh,.slice y1 ybs.length y4,ybs,.slice y2 yrs.length y5,yrs,.slice y3 yds.length y6,yds⟩:InstQ).e=vtI (⟨yh,.slice y1 ybs.length y4,ybs,.slice y2 yrs.length y5,yrs,.slice y3 yds.length y6,yds⟩:InstQ).e from if_pos h2] at this;omega
 go_wp2_with fail
 have hgyl:=By.lt
 generalize x4.alloc (.cells #[.bool yh,.slice y1 ybs.length y4,.slice y2 yrs.length y5,.slice y3 yds.length y6] 28)=Y at *
 generalize x4.heap.size=gy at *
 have hXY:b < Y.heap.size:=hS.lt.2
 refine (l10Votes_any gy 0 (⟨yh,.slice y1 ybs.length y4,ybs,.slice y2 yrs.length y5,yrs,.slice y3 yds.length y6,yds⟩:InstQ) Y hP hFr).mono ?_
 rintro e x5 ⟨va,vc,rfl,ov,hb5⟩
 generalize vtI (⟨yh,.slice y1 ybs.length y4,ybs,.slice y2 yrs.length y5,yrs,.slice y3 yds.length y6,yds⟩:InstQ).e=L at *
 have hYs:=hb5.size
 replace R0:=R0.below hb5
 replace Bx:=Bx.below hb5
 replace oq:=instK.own_out (F:=[]) oq (Out.of_below hb5) (fun _ _=>by simp)
 replace hS:=hS.below hb5
 replace hb0:=hb0.trans (hb5.mono hb0.size)
 clear hb5
 have uv:∀ k∈blk (.slice va L.length vc),Y.heap.size≤k∧k < x5.heap.size:=fun k hk=>by
  have:=ov.lt k (by simpa [blk] using hk)
  omega
 clear hP hFr By o2 u2 h2 n2
 go_wp2_with fail
 refine (next_any B b (0 + 2500 + 60 + 60) 6 x5 hS (by omega) (by omega)).mono ?_
 rintro e x6 ⟨c,rfl,_,hSn,hgn⟩
 have hU:Out [b] _ _:=Out.of_grown hgn
 replace R0:=R0.outs hU (fun hk=>by simp only [List.mem_singleton] at hk;omega)
 replace Bx:=Bx.outs hU (fun hk=>by simp only [List.mem_singleton] at hk;omega)
 replace oq:=instK.own_out oq hU (fun k hk=>by have:=uq k hk;simp only [List.mem_singleton];omega)
 replace ov:=own_outs ov hU (fun k hk=>by have:=uv k hk;simp only [List.mem_singleton];omega)
 replace hb0:=Out.keep hb0 hU hb0.size (fun k hk=>by simp only [List.mem_singleton] at hk;omega)
 have hsz:=hU.size
 replace hS:=hSn
 clear hSn hgn hU
 have ovw:=World.ownsRow.mono ov (base' := w.heap.size) (by omega)
 have hgxw:w.heap.size < gx:=by omega
 by_cases h0' : c=0
 ·skip
  subst h0'
  clear hx1
  go_wp2_with fail
  refine (l10Bent_any B b (0 + 2500 + 60 + 60 + 1) x6 hS (by omega)).mono ?_
  rintro e x7 ⟨vk,vr,vn,vv,rfl,hSn,hgn⟩
  have hU:Out [b] _ _:=Out.of_grown hgn
  replace R0:=R0.outs hU (fun hk=>by simp only [List.mem_singleton] at hk;omega)
  replace Bx:=Bx.outs hU (fun hk=>by simp only [List.mem_singleton] at hk;omega)
  replace oq:=instK.own_out oq hU (fun k hk=>by have:=uq k hk;simp only [List.mem_singleton];omega)
  replace ovw:=own_outs ovw hU (fun k hk=>by have:=uv k hk;simp only [List.mem_singleton];omega)
  replace hb0:=Out.keep hb0 hU hb0.size (fun k hk=>by simp only [List.mem_singleton] at hk;omega)
  have hsz:=hU.size
  replace hS:=hSn
  clear hSn hgn hU
  have hbZ:Below x7.heap.size x7 (x7.alloc (.cells #[.int .i64 vk,.int .i64 vr,.int .i64 vn,.int .i64 vv] 44)):=by go_grown
  have hrow0:=own_below ovw hbZ
  have hsrc:∀ j u,([.int .i64 vk,.int .i64 vr,.int .i64 vn,.int .i64 vv]:List Value)[j]? = some u→(x7.alloc (.cells #[.int .i64 vk,.int .i64 vr,.int .i64 vn,.int .i64 vv] 44)).cell? ((⟨x7.heap.size,0,none⟩:Addr).add j)=some u:=by
   intro j u hj;match j,hj with | 0,hj=>simp at hj;subst hj;simp [Addr.add] | 1,hj=>simp at hj;subst hj;simp [Addr.add] | 2,hj=>simp at hj;subst hj;simp [Addr.add] | 3,hj=>simp at hj;subst hj;simp [Addr.add]
  go_wp2_with (at_builtin;refine wpList_append_own_at _ rfl _ _ 30 rfl w.heap.size 44 i0 (.agg #[.int .i64 0,.int .i64 0,.int .i64 0,.int .i64 0]) 4 32 Tryz.underlying30 hi hz0 hz1 hz2 rfl (by decide) _ L.length (voteCells L) rfl hrow0 ⟨x7.heap.size,0,none⟩ 1 1 [.int .i64 vk,.int .i64 vr,.int .i64 vn,.int .i64 vv] rfl rfl hsrc ?c2 ?c3 ?c4 ?c5 ?_)
  case c2=>intro u hu;simp at hu;rcases hu with rfl | rfl | rfl | rfl <;> rfl
  case c3=>unfold maxLen;omega
  case c4=>omega
  case c5=>have:=hb0.size;have:=hbZ.size;omega
  intro v' x8 hown hgrow hnil hat
  obtain ⟨a8,c8,rfl⟩:=own_shape hown
  have hsz8:=hgrow.size
  have hUa:Out (blk (.slice va L.length vc)) _ x8:=Out.of_grown hgrow
  replace R0:=R0.below hbZ
  replace Bx:=Bx.below hbZ
  replace oq:=instK.own_out (F:=[]) oq (Out.of_below hbZ) (fun _ _=>by simp)
  replace hb0:=hb0.trans (hbZ.mono hb0.size)
  have hZs:=hbZ.size
  clear hbZ hsrc hrow0 ovw ov
  replace R0:=R0.outs hUa (fun hk=>by have:=uv _ hk;omega)
  replace Bx:=Bx.outs hUa (fun hk=>by have:=uv _ hk;omega)
  replace oq:=instK.own_out oq hUa (fun k hk hk' => by have:=uq k hk;have:=uv _ hk';omega)
  replace hb0:=Out.keep hb0 hUa hb0.size (fun k hk=>by have:=uv _ hk;omega)
  clear hUa hgrow hnil
  have vlo:∀ k∈blk (.slice a8 (L ++ [(⟨vk,vr,vn,vv⟩:VoteD)]).length c8),w.heap.size < k:=fun k hk=>by
   have hk2:k∈(Value.slice a8 (L.length + 1) c8).ownBlock.toList:=by simpa [blk,Value.ownBlock] using hk
   rcases hat with e | e
   ·rw [e] at hk2
    have:=uv k hk2
    omega
   ·rw [e] at hk2
    simp at hk2
    omega
  clear hat
  have hrow:x8.ownsRow w.heap.size 44 4 (.slice a8 (L ++ [(⟨vk,vr,vn,vv⟩:VoteD)]).length c8) (L ++ [(⟨vk,vr,vn,vv⟩:VoteD)]).length (voteCells (L ++ [(⟨vk,vr,vn,vv⟩:VoteD)])):=by
   rw [List.length_append,voteCells_append]
   exact hown
  rw [show L.length + 1=(L ++ [(⟨vk,vr,vn,vv⟩:VoteD)]).length from by simp]
  have hL1:(L ++ [(⟨vk,vr,vn,vv⟩:VoteD)]).length≤1048576:=by simp;omega
  clear hown
  generalize (L ++ [(⟨vk,vr,vn,vv⟩:VoteD)])=L' at *
  have Rr:=R0.row #[.bool ch,.slice c1 cbs.length c4,.slice c2 crs.length c5,.slice c3 cds.length c6]
  have hU:=out_row x8 w.heap.size #[.bool ch,.slice c1 cbs.length c4,.slice c2 crs.length c5,.slice c3 cds.length c6]
  have hb9:=below_row hb0 (g:=w.heap.size) (Nat.le_refl _) #[.bool ch,.slice c1 cbs.length c4,.slice c2 crs.length c5,.slice c3 cds.length c6]
  have oz:=instK.own_out oq hU (fun k hk=>by have:=uq k hk;simp only [List.mem_singleton];omega)
  have vz:=own_outs hrow hU (fun k hk=>by have:=vlo k hk;simp only [List.mem_singleton];omega)
  have hsr:(Tryz.prog.info? 28).map (·.size)=some (#[.bool ch,.slice c1 cbs.length c4,.slice c2 crs.length c5,.slice c3 cds.length c6]:Array Value).size:=by kernel_rfl
  obtain ⟨p0,p1,p2,p3⟩:=Bx.cel4
  go_wp2_with (refine st_row (by kernel_rfl) 28 _ _ rfl _ #[.bool ch,.slice c1 cbs.length c4,.slice c2 crs.length c5,.slice c3 cds.length c6] rfl rfl 28 _ R0 hsr rfl (by simp [Value.oneCell']) ?_)
  obtain ⟨r0,r1,r2,r3⟩:=Rr.cel4
  exact bodyPost_ret (v:=.tuple #[.agg #[.bool ch,.slice c1 cbs.length c4,.slice c2 crs.length c5,.slice c3 cds.length c6],.slice a8 L'.length c8]) (by simp [results,Tryz.results7,go_sem,r0,r1,r2,r3]) rfl ⟨(⟨ch,.slice c1 cbs.length c4,cbs,.slice c2 crs.length c5,crs,.slice c3 cds.length c6,cds⟩:InstQ),a8,c8,L',rfl,hnq,oz,vz,by omega,hb9⟩
 by_cases h1' : c=1
 ·skip
  subst h1'
  clear hx1
  go_wp2_with fail
  refine (l6Bent_any B b (0 + 2500 + 60 + 60 + 1) x6 hS (by omega)).mono ?_
  rintro e x7 ⟨qt,rfl,hnt,ot,nt,gt,hSn,hgn⟩
  have hU:Out [b] _ _:=Out.of_grown hgn
  replace R0:=R0.outs hU (fun hk=>by simp only [List.mem_singleton] at hk;omega)
  replace Bx:=Bx.outs hU (fun hk=>by simp only [List.mem_singleton] at hk;omega)
  replace ovw:=own_outs ovw hU (fun k hk=>by have:=uv k hk;simp only [List.mem_singleton];omega)
  replace hb0:=Out.keep hb0 hU hb0.size (fun k hk=>by simp only [List.mem_singleton] at hk;omega)
  have hsz:=hU.size
  replace hS:=hSn
  clear hSn hgn hU
  obtain ⟨th,tb,tbs,tr,trs,td,tds⟩:=qt
  obtain ⟨t1,t4,rfl⟩:∃ a c,tb=.slice a tbs.length c:=ot.1.shape
  obtain ⟨t2,t5,rfl⟩:∃ a c,tr=.slice a trs.length c:=ot.2.1.shape
  obtain ⟨t3,t6,rfl⟩:∃ a c,td=.slice a tds.length c:=ot.2.2.shape
  have Bt:=Bx.row #[.bool th,.slice t1 tbs.length t4,.slice t2 trs.length t5,.slice t3 tds.length t6]
  have hUt:=out_row x7 gx #[.bool th,.slice t1 tbs.length t4,.slice t2 trs.length t5,.slice t3 tds.length t6]
  replace R0:=R0.outs hUt (fun hk=>by simp only [List.mem_singleton] at hk;omega)
  replace ovw:=own_outs ovw hUt (fun k hk=>by have:=uv k hk;simp only [List.mem_singleton];omega)
  replace ot:=instK.own_out ot hUt (fun k hk=>by have:=gt k hk;simp only [List.mem_singleton];omega)
  replace hb0:=Out.keep hb0 hUt hb0.size (fun k hk=>by simp only [List.mem_singleton] at hk;omega)
  have hst:(Tryz.prog.info? 28).map (·.size)=some (#[.bool th,.slice t1 tbs.length t4,.slice t2 trs.length t5,.slice t3 tds.length t6]:Array Value).size:=by kernel_rfl
  have ut:∀ k∈instK.foot (⟨th,.slice t1 tbs.length t4,tbs,.slice t2 trs.length t5,trs,.slice t3 tds.length t6,tds⟩:InstQ),w.heap.size < k:=fun k hk=>by have:=gt k hk;omega
  have hnt2:InstQ.n (⟨th,.slice t1 tbs.length t4,tbs,.slice t2 trs.length t5,trs,.slice t3 tds.length t6,tds⟩:InstQ)≤1048576:=by omega
  have vlo:∀ k∈blk (.slice va L.length vc),w.heap.size < k:=fun k hk=>by have:=uv k hk;omega
  have Rr:=R0.row #[.bool th,.slice t1 tbs.length t4,.slice t2 trs.length t5,.slice t3 tds.length t6]
  have hU:=out_row (x7.setRow gx #[.bool th,.slice t1 tbs.length t4,.slice t2 trs.length t5,.slice t3 tds.length t6]) w.heap.size #[.bool th,.slice t1 tbs.length t4,.slice t2 trs.length t5,.slice t3 tds.length t6]
  have hb9:=below_row hb0 (g:=w.heap.size) (Nat.le_refl _) #[.bool th,.slice t1 tbs.length t4,.slice t2 trs.length t5,.slice t3 tds.length t6]
  have oz:=instK.own_out ot hU (fun k hk=>by have:=ut k hk;simp only [List.mem_singleton];omega)
  have vz:=own_outs ovw hU (fun k hk=>by have:=vlo k hk;simp only [List.mem_singleton];omega)
  have hsr:(Tryz.prog.info? 28).map (·.size)=some (#[.bool th,.slice t1 tbs.length t4,.slice t2 trs.length t5,.slice t3 tds.length t6]:Array Value).size:=by kernel_rfl
  obtain ⟨p0,p1,p2,p3⟩:=Bt.cel4
  go_wp2_with (first | (refine st_row (by kernel_rfl) 28 _ _ rfl _ #[.bool th,.slice t1 tbs.length t4,.slice t2 trs.length t5,.slice t3 tds.length t6] rfl rfl 28 _ Bx hst rfl (by simp [Value.oneCell']) ?_) | (refine st_row (by kernel_rfl) 28 _ _ rfl _ #[.bool th,.slice t1 tbs.length t4,.slice t2 trs.length t5,.slice t3 tds.length t6] rfl rfl 28 _ R0 hsr rfl (by simp [Value.oneCell']) ?_))
  obtain ⟨r0,r1,r2,r3⟩:=Rr.cel4
  exact bodyPost_ret (v:=.tuple #[.agg #[.bool th,.slice t1 tbs.length t4,.slice t2 trs.length t5,.slice t3 tds.length t6],.slice va L.length vc]) (by simp [results,Tryz.results7,go_sem,r0,r1,r2,r3]) rfl ⟨(⟨th,.slice t1 tbs.length t4,tbs,.slice t2 trs.length t5,trs,.slice t3 tds.length t6,tds⟩:InstQ),va,vc,L,rfl,hnt2,oz,vz,by omega,hb9⟩
 by_cases h2' : c=2
 ·skip
  subst h2'
  clear hx1
  have hby2:i0.bytes * 41≤281474976710656:=by rw [hz2];omega
  go_wp2_with (at_make;refine wpList_make_full _ rfl _ _ 30 rfl w.heap.size 44 i0 (.agg #[.int .i64 0,.int .i64 0,.int .i64 0,.int .i64 0]) 4 Tryz.underlying30 hi hz0 hz1 _ _ _ _ 41 rfl rfl rfl rfl hby2 (by unfold maxLen;omega) (by have:=hb0.size;omega) ?_)
  intro x7 hown hgrow
  have hbM:Below x6.heap.size x6 x7:=(Below.refl _ _).grown hgrow (Nat.le_refl _) (by simp)
  replace R0:=R0.below hbM
  replace Bx:=Bx.below hbM
  replace oq:=instK.own_out (F:=[]) oq (Out.of_below hbM) (fun _ _=>by simp)
  replace hb0:=hb0.trans (hbM.mono hb0.size)
  have hx6w:w.heap.size < x6.heap.size:=by omega
  have vlo:∀ k∈blk (.slice (some ⟨x6.heap.size,0,none⟩) (List.replicate 41 voteNo).length 41),w.heap.size < k:=fun k hk=>by
   simp [blk,Value.ownBlock] at hk
   omega
  have hrow:x7.ownsRow w.heap.size 44 4 (.slice (some ⟨x6.heap.size,0,none⟩) (List.replicate 41 voteNo).length 41) (List.replicate 41 voteNo).length (voteCells (List.replicate 41 voteNo)):=by
   have e1:(List.replicate 41 voteNo).length=41:=by simp
   have e2:(madeCells #[Value.int .i64 0,Value.int .i64 0,Value.int .i64 0,Value.int .i64 0] 164).toList=voteCells (List.replicate 41 voteNo):=by kernel_rfl
   rw [e1,← e2]
   exact hown
  have hL1:(List.replicate 41 voteNo).length≤1048576:=by simp
  clear hown hgrow hbM ovw ov uv
  generalize x6.heap.size=gm at *
  have Rr:=R0.row #[.bool ch,.slice c1 cbs.length c4,.slice c2 crs.length c5,.slice c3 cds.length c6]
  have hU:=out_row x7 w.heap.size #[.bool ch,.slice c1 cbs.length c4,.slice c2 crs.length c5,.slice c3 cds.length c6]
  have hb9:=below_row hb0 (g:=w.heap.size) (Nat.le_refl _) #[.bool ch,.slice c1 cbs.length c4,.slice c2 crs.length c5,.slice c3 cds.length c6]
  have oz:=instK.own_out oq hU (fun k hk=>by have:=uq k hk;simp only [List.mem_singleton];omega)
  have vz:=own_outs hrow hU (fun k hk=>by have:=vlo k hk;simp only [List.mem_singleton];omega)
  have hsr:(Tryz.prog.info? 28).map (·.size)=some (#[.bool ch,.slice c1 cbs.length c4,.slice c2 crs.length c5,.slice c3 cds.length c6]:Array Value).size:=by kernel_rfl
  obtain ⟨p0,p1,p2,p3⟩:=Bx.cel4
  go_wp2_with (refine st_row (by kernel_rfl) 28 _ _ rfl _ #[.bool ch,.slice c1 cbs.length c4,.slice c2 crs.length c5,.slice c3 cds.length c6] rfl rfl 28 _ R0 hsr rfl (by simp [Value.oneCell']) ?_)
  obtain ⟨r0,r1,r2,r3⟩:=Rr.cel4
  exact bodyPost_ret (v:=.tuple #[.agg #[.bool ch,.slice c1 cbs.length c4,.slice c2 crs.length c5,.slice c3 cds.length c6],.slice (some ⟨gm,0,none⟩) (List.replicate 41 voteNo).length 41]) (by simp [results,Tryz.results7,go_sem,r0,r1,r2,r3]) rfl ⟨(⟨ch,.slice c1 cbs.length c4,cbs,.slice c2 crs.length c5,crs,.slice c3 cds.length c6,cds⟩:InstQ),(some ⟨gm,0,none⟩),41,(List.replicate 41 voteNo),rfl,hnq,oz,vz,by omega,hb9⟩
 have vlo:∀ k∈blk (.slice va L.length vc),w.heap.size < k:=fun k hk=>by have:=uv k hk;omega
 have q0:(c == 0)=false:=by simpa using h0'
 have q1:(c == 1)=false:=by simpa using h1'
 have q2:(c == 2)=false:=by simpa using h2'
 clear h0' h1' h2'
 have Rr:=R0.row #[.bool ch,.slice c1 cbs.length c4,.slice c2 crs.length c5,.slice c3 cds.length c6]
 have hU:=out_row x6 w.heap.size #[.bool ch,.slice c1 cbs.length c4,.slice c2 crs.length c5,.slice c3 cds.length c6]
 have hb9:=below_row hb0 (g:=w.heap.size) (Nat.le_refl _) #[.bool ch,.slice c1 cbs.length c4,.slice c2 crs.length c5,.slice c3 cds.length c6]
 have oz:=instK.own_out oq hU (fun k hk=>by have:=uq k hk;simp only [List.mem_singleton];omega)
 have vz:=own_outs ovw hU (fun k hk=>by have:=vlo k hk;simp only [List.mem_singleton];omega)
 have hsr:(Tryz.prog.info? 28).map (·.size)=some (#[.bool ch,.slice c1 cbs.length c4,.slice c2 crs.length c5,.slice c3 cds.length c6]:Array Value).size:=by kernel_rfl
 obtain ⟨p0,p1,p2,p3⟩:=Bx.cel4
 go_wp2_with (refine st_row (by kernel_rfl) 28 _ _ rfl _ #[.bool ch,.slice c1 cbs.length c4,.slice c2 crs.length c5,.slice c3 cds.length c6] rfl rfl 28 _ R0 hsr rfl (by simp [Value.oneCell']) ?_)
 obtain ⟨r0,r1,r2,r3⟩:=Rr.cel4
 exact bodyPost_ret (v:=.tuple #[.agg #[.bool ch,.slice c1 cbs.length c4,.slice c2 crs.length c5,.slice c3 cds.length c6],.slice va L.length vc]) (by simp [results,Tryz.results7,go_sem,r0,r1,r2,r3]) rfl ⟨(⟨ch,.slice c1 cbs.length c4,cbs,.slice c2 crs.length c5,crs,.slice c3 cds.length c6,cds⟩:InstQ),va,vc,L,rfl,hnq,oz,vz,by omega,hb9⟩

end Go.Proofs.YtdhdnppbgaikfaaGreatDoor
namespace Go.Proofs.YtdhdnppbgaikfaaGreatDoor
open Go.RowKit Go.Shelf
set_option maxRecDepth 100000
attribute [local go_sem] Oper.semAt_some
/-- Where no depth is asked, a round is a round at whatever depth, and within whatever round. -/
theorem round_wide {m m' : Nat} {P:Program} {l:Nat} {f:FuncId} {tmps:Array Value} {assign body:Code} {W:World} {R:Ending→World→Prop} (h:RoundIn Fence.wide m P l f tmps assign body W R):RoundIn Fence.wide m' P l f tmps assign body W R:=
 ⟨h.1,fun c cs _=>h.2 c cs (fun d hd=>by cases hd)⟩

theorem yield_wide {m m' : Nat} {P:Program} {l:Nat} {args:Array Value} {W:World} {R:Ending→World→Prop} (h:YieldAt Fence.wide m P l args W R):YieldAt Fence.wide m' P l args W R:=by
 obtain ⟨fn,t,a,b,hy,hR⟩:=h
 exact ⟨fn,t,a,b,hy,round_wide hR⟩

theorem yield_in {m m' l₀:Nat} {P:Program} {l:Nat} {args:Array Value} {W:World} {R:Ending→World→Prop} (h:YieldAt Fence.wide m P l args W R):YieldAt (Fence.wide.inRound l₀) m' P l args W R:=by
 obtain ⟨fn,t,a,b,hy,hR⟩:=h
 exact ⟨fn,t,a,b,hy,⟨trivial,fun c cs _=>hR.2 c cs (fun d hd=>by cases hd)⟩⟩

/-- An iterator hands on just xs, to whatever rounds keep Kp. -/
def Hands {α:Type} (P:Program) (g:Nat) (lb:Array Value) (encs:α→Array Value) (Kp:Nat→World→World→Prop) (xs:List α) (w:World):Prop:=
 ∀ (n l:Nat) (J:List α→World→Prop) (W:World),Below w.heap.size w W→w.heap.size≤l→l < W.heap.size→OwnFrom W.heap.size J →
  (∀ pre x W1,J pre W1→pre ++ [x] <+: xs→YieldAt Fence.wide 0 P l (encs x) W1 fun e W' => e=.returned (.bool true)∧J (pre ++ [x]) W' ∧ Kp l W1 W') →
  J [] W→CallsIn Fence.wide n P g (#[.func (.yield l) #[] #[]] ++ lb) W fun e W' => (∃ v,e=.returned v)∧J xs W'

/-- How a round's body ends: it goes on. -/
def goesOn (B:Nat) (Kp:World→World→Prop) (I:World→Prop) (W:World):Exit→Act→World→Prop
 | .normal,_,W' => KeepsFrom B W W' ∧ Kp W W' ∧ I W'
 | _,_,_=>False

theorem wpIn_hands {α:Type} {n:Nat} {P:Program} {g:Operand} {ps:Array Tmp} {assign body:Code} {Q:Exit→Act→World→Prop} {a:Act} {w:World}
  {gf:Nat} {lb:Array Value} (hg:a.eval g=.func (.func gf) #[] lb) (eg:∀ args w,(callFunc gf args).run P w=.ok (.enter gf args) w)
  {encs:α→Array Value} {Kp:Nat→World→World→Prop} {xs:List α} (hseq:Hands P gf lb encs Kp xs w)
  (hKt:∀ {l:Nat} {A B C:World},Kp l A B→Kp l B C→Kp l A C) (hKb:∀ (W:World) (l:Nat) (r r' : Loop),W.heap[l]? = some (.loop r)→Kp l W (W.putObj l (.loop r'))) (hps:∀ x,(encs x).size=ps.size)
  (I:List α→World→Prop) (hI:OwnFrom w.heap.size I) (h0:I [] w)
  (hround:∀ (l:Nat) (pre:List α) (x:α) (W:World),w.heap.size≤l→pre ++ [x] <+: xs →
   assign.wpIn (Fence.wide.inRound l) n P (Exit.then (fun a₁ W₁=>W₁=W∧∀ W₂,I pre W₂→l < W₂.heap.size→body.wpIn (Fence.wide.inRound l) n P (goesOn w.heap.size (Kp l) (I (pre ++ [x])) W₂) a₁ W₂) (fun _ _ _=>False)) { tmps:=(ps.zip (encs x)).foldl (fun t (p,v)=>t.setIfInBounds p v) a.tmps,defers:=[] } W)
  (hdone:∀ (D:Nat) (W:World),w.heap.size≤D→I xs W→W.heap[D]? = some (.deferred (some []))→Q .normal { a with defers:={ target:=.collected D,args:=#[] } :: a.defers } W) :
  (Code.rangeFunc g ps assign body).wpIn Fence.wide n P Q a w:=by
 have hz:(w.alloc (.deferred (some []))).heap.size=w.heap.size + 1:=World.size_alloc _ _
 refine wpIn_rangeFunc fun fn hfn=>?_
 let L:Loop:={ state:=.ready,pending:=none,fn,tmps:=a.tmps,params:=ps,assign,body,defers:=w.heap.size }
 let V:World:=(w.alloc (.deferred (some []))).alloc (.loop L)
 have vL:V.heap[w.heap.size + 1]? = some (.loop L):=by
  have:=World.alloc_heap_new (w.alloc (.deferred (some []))) (.loop L)
  rwa [hz] at this
 have vD:V.heap[w.heap.size]? = some (.deferred (some [])):=(Below.heap_alloc (w.alloc (.deferred (some []))) (.loop L) w.heap.size (by omega)).trans (World.alloc_heap_new w _)
 have vz:V.heap.size=w.heap.size + 2:=by
  show ((w.alloc (.deferred (some []))).alloc (.loop L)).heap.size=_
  rw [World.size_alloc,hz]
 have vb:Below w.heap.size w V:=((Below.refl _ w).alloc (Nat.le_refl _) _).alloc (by omega) _
 refine ⟨w.heap.size + 1,[{ target:=.collected w.heap.size,args:=#[] }],V,{ target:=.fn (.func gf) lb,args:=#[.func (.yield (w.heap.size + 1)) #[] #[]] },V,gf,#[.func (.yield (w.heap.size + 1)) #[] #[]] ++ lb,V,
  run_enterLoop_outer _ _ _ _ _,by simp only [resolve,hg];simp [go_sem],fun _ _=>trivial,by simp [invoke,go_sem,eg],(by intro h;cases h),?_⟩
 -- the loop's own invariant: the caller's, the record is ready, the block for deferred calls is empty
 refine (hseq (n - 1) (w.heap.size + 1) (fun pre W=>I pre W∧W.heap[w.heap.size + 1]? = some (.loop L)∧W.heap[w.heap.size]? = some (.deferred (some []))) V vb (by omega) (by omega) ?own ?round ⟨hI.alloc _ (hI.alloc _ h0),vL,vD⟩).mono ?rest
 case own=>
  rintro s A B row ⟨hi,hl,hd⟩ hgr hr
  have keep:∀ k o,A.heap[k]? = some o→k < w.heap.size + 2→B.heap[k]? = some o:=fun k o hk hlt=>
   (hgr.block k (Array.getElem?_eq_some_iff.1 hk).1 (fun e=>by have:=(hr k e.symm).1;omega)).trans hk
  exact ⟨hI s A B row hi hgr (fun r e=>⟨by have:=(hr r e).1;omega,(hr r e).2⟩),keep _ _ hl (by omega),keep _ _ hd (by omega)⟩
 case round=>
  rintro pre x W ⟨hi,hl,hd⟩ hpx
  have hlt:w.heap.size + 1 < W.heap.size:=(Array.getElem?_eq_some_iff.1 hl).1
  refine ⟨fn,_,assign,body,run_yield (P:=P) (args:=encs x) hl (hps x),round_wide (m:=n) (roundIn_of_wpIn trivial (wpIn_mono (hround (w.heap.size + 1) pre x W (by omega) hpx) ?_))⟩
  rintro e₁ a₁ W₁ hq₁
  cases e₁ with
  | normal=>?_
  | ret=>exact hq₁.elim
  | exit id=>exact hq₁.elim
  | goto t=>exact hq₁.elim
  | panic ch=>exact hq₁.elim
  | outgrown=>exact hq₁.elim
  obtain ⟨hW₁,hbody⟩:=hq₁
  replace hW₁:=hW₁.symm
  subst hW₁
  refine ⟨_,run_beginRound hl rfl,?_⟩
  have hl2:(W.putObj (w.heap.size + 1) (.loop { L with state:=.busy })).heap[w.heap.size + 1]? = some (.loop { L with state:=.busy }):=World.putObj_heap_same hlt
  have hd2:(W.putObj (w.heap.size + 1) (.loop { L with state:=.busy })).heap[w.heap.size]? = some (.deferred (some [])):=(World.putObj_heap_other (by omega)).trans hd
  refine wpIn_mono (hbody _ (hI.putObj _ hi (by omega) hl rfl) (by rw [World.putObj_size];exact hlt)) ?_
  rintro e a3 W3 hp
  cases e with
  | normal=>
   obtain ⟨hk3,hkp3,hi3⟩:=hp
   have hl3:=hk3.same _ _ (by omega) hl2 rfl
   have hd3:=hk3.same _ _ (Nat.le_refl _) hd2 rfl
   refine ⟨_,_,run_endRound (P:=P) none hl3,rfl,⟨hI.putObj _ hi3 (by omega) hl3 rfl,World.putObj_heap_same (Array.getElem?_eq_some_iff.1 hl3).1,(World.putObj_heap_other (by omega)).trans hd3⟩,?_⟩
   exact hKt (hKt (hKb _ _ _ _ hl) hkp3) (hKb _ _ _ _ hl3)
  | ret=>exact hp.elim
  | exit id=>exact hp.elim
  | goto t=>exact hp.elim
  | panic ch=>exact hp.elim
  | outgrown=>exact hp.elim
 case rest=>
  rintro e W2 ⟨⟨v,rfl⟩,hi,hl,hd⟩
  exact ⟨none,_,run_endLoop (P:=P) hl (by simp [L]),hdone _ _ (Nat.le_refl _) (hI.putObj _ hi (by omega) hl rfl) ((World.putObj_heap_other (by omega)).trans hd)⟩

end Go.Proofs.YtdhdnppbgaikfaaGreatDoor
namespace Go.Proofs.YtdhdnppbgaikfaaGreatDoor
open Go.RowKit
open Go.BigFrame
set_option maxRecDepth 100000
set_option maxHeartbeats 1000000 in
theorem endVote_any (n v:Int) (w:World):Calls Tryz.prog 163 #[.agg #[.int .i64 n,.int .i64 v]] w fun e w' => e=.returned (.agg #[.int .i64 3,.int .i64 0,.int .i64 n,.int .i64 v])∧Below w.heap.size w w' := by
 go_enter Tryz.func163,Tryz.ntmps163
 go_wp2
 exact bodyPost_ret (v:=.agg #[.int .i64 3,.int .i64 0,.int .i64 n,.int .i64 v]) (by simp [results,Tryz.results163,go_sem]) rfl ⟨rfl,by go_grown⟩

/-- A vote as a ballot. -/
def balV (x:VoteD):Value:=if x.kind=1 then .iface 103 (.agg #[.int .i64 x.round,.int .i64 x.node,.int .i64 x.value]) else if x.kind=2 then .iface 104 (.agg #[.int .i64 x.round,.int .i64 x.node,.int .i64 x.value]) else .iface 106 (.agg #[.int .i64 x.node,.int .i64 x.value])

set_option maxHeartbeats 2000000 in
theorem ballotOf_any (k r n v:Int) (w:World):Calls Tryz.prog 55 #[.agg #[.int .i64 k,.int .i64 r,.int .i64 n,.int .i64 v]] w fun e w' => e=.returned (balV ⟨k,r,n,v⟩)∧Below w.heap.size w w' := by
 unfold balV
 dsimp only
 by_cases h1:k=1
 ·subst h1
  go_enter Tryz.func55,Tryz.ntmps55
  go_wp2
  go_ret
  exact ⟨by simp,by go_grown⟩
 ·by_cases h2:k=2
  ·subst h2
   go_enter Tryz.func55,Tryz.ntmps55
   go_wp2
   go_ret
   exact ⟨by simp,by go_grown⟩
  ·have e1:(k == 1)=false:=by simpa using h1
   have e2:(k == 2)=false:=by simpa using h2
   go_enter Tryz.func55,Tryz.ntmps55
   go_wp2
   go_ret
   exact ⟨by simp [h1,h2],by go_grown⟩

/-- Where a vote lies on a board. -/
def plcO (x:VoteD):Nat:=if x.kind=1 then 1 + x.round.toNat * 6 + x.node.toNat else if x.kind=2 then 1 + x.round.toNat * 6 + 3 + x.node.toNat else 27 + x.node.toNat

theorem ta_11 (v:Value) (u:World):(Instr.typeAssert (.iface 103 v) 65 103 true).run Tryz.prog u=.ok (.tuple #[v,.bool true]) u:=by kernel_rfl

theorem ta_21 (v:Value) (u:World):(Instr.typeAssert (.iface 104 v) 65 103 true).run Tryz.prog u=.ok (.tuple #[.agg #[.int .i64 0,.int .i64 0,.int .i64 0],.bool false]) u:=by kernel_rfl

theorem ta_22 (v:Value) (u:World):(Instr.typeAssert (.iface 104 v) 65 104 true).run Tryz.prog u=.ok (.tuple #[v,.bool true]) u:=by kernel_rfl

theorem ta_31 (v:Value) (u:World):(Instr.typeAssert (.iface 106 v) 65 103 true).run Tryz.prog u=.ok (.tuple #[.agg #[.int .i64 0,.int .i64 0,.int .i64 0],.bool false]) u:=by kernel_rfl

theorem ta_32 (v:Value) (u:World):(Instr.typeAssert (.iface 106 v) 65 104 true).run Tryz.prog u=.ok (.tuple #[.agg #[.int .i64 0,.int .i64 0,.int .i64 0],.bool false]) u:=by kernel_rfl

set_option maxHeartbeats 4000000 in
theorem placeOf_any (b:Nat) (k:Int) (r n:Nat) (v:Int) (w:World) (hk:1≤k∧k≤3) (hr:r < 4) (hn:n < 3) :
  Calls Tryz.prog 54 #[.pointer (some ⟨b,0,none⟩),balV ⟨k,(r:Int),(n:Int),v⟩] w fun e w' => e=.returned (.pointer (some ⟨b,plcO ⟨k,(r:Int),(n:Int),v⟩,none⟩))∧Below w.heap.size w w' := by
 have hr4:(r:Int) < 4:=by omega
 have hn3:(n:Int) < 3:=by omega
 have hk' : k=1∨k=2∨k=3:=by omega
 have t11:=ta_11
 have t21:=ta_21
 have t22:=ta_22
 have t31:=ta_31
 have t32:=ta_32
 unfold balV plcO
 dsimp only
 rw [Int.toNat_natCast,Int.toNat_natCast]
 rcases hk' with rfl | rfl | rfl
 ·rw [if_pos rfl,if_pos rfl]
  have V:=Blk.new w 103 #[.int .i64 (r:Int),.int .i64 (n:Int),.int .i64 v]
  have hb0:Below w.heap.size w (w.alloc (.cells #[.int .i64 (r:Int),.int .i64 (n:Int),.int .i64 v] 103)):=by go_grown
  go_enter Tryz.func54,Tryz.ntmps54
  go_wp2_with fail
  generalize w.alloc (.cells #[.int .i64 (r:Int),.int .i64 (n:Int),.int .i64 v] 103)=X at *
  obtain ⟨v0,v1,v2⟩:=V.lts3
  have hW:Below X.heap.size X X.drew:=(Below.refl _ _).drew
  have hnn:Nonempty (Lat X):=⟨⟨X,Below.refl _ _⟩⟩
  refine text_begin (S:=fun w' => ∃ u:Lat X,w' = u.val) (by kernel_rfl) ?_
  refine sgr [(0,12)] 0 (by kernel_rfl) ⟨⟨_,hW⟩,rfl⟩ ?_
  simp only [pkE]
  repeat go_big_quiet_step (fail)
  refine wpQuiet_nil ?_
  refine text_end (by kernel_rfl) ?_
  replace hb0:=hb0.trans (hW.mono hb0.size)
  go_wp2
  go_ret
  exact ⟨rfl,hb0⟩
 ·rw [if_neg (by decide),if_pos rfl,if_neg (by decide),if_pos rfl]
  have V:=Blk.new w 104 #[.int .i64 (r:Int),.int .i64 (n:Int),.int .i64 v]
  have hb0:Below w.heap.size w (w.alloc (.cells #[.int .i64 (r:Int),.int .i64 (n:Int),.int .i64 v] 104)):=by go_grown
  go_enter Tryz.func54,Tryz.ntmps54
  go_wp2_with fail
  generalize w.alloc (.cells #[.int .i64 (r:Int),.int .i64 (n:Int),.int .i64 v] 104)=X at *
  obtain ⟨v0,v1,v2⟩:=V.lts3
  have hW:Below X.heap.size X X.drew:=(Below.refl _ _).drew
  have hnn:Nonempty (Lat X):=⟨⟨X,Below.refl _ _⟩⟩
  refine text_begin (S:=fun w' => ∃ u:Lat X,w' = u.val) (by kernel_rfl) ?_
  refine sgr [(0,12)] 0 (by kernel_rfl) ⟨⟨_,hW⟩,rfl⟩ ?_
  simp only [pkE]
  repeat go_big_quiet_step (fail)
  refine wpQuiet_nil ?_
  refine text_end (by kernel_rfl) ?_
  replace hb0:=hb0.trans (hW.mono hb0.size)
  go_wp2
  go_ret
  exact ⟨rfl,hb0⟩
 ·rw [if_neg (by decide),if_neg (by decide),if_neg (by decide),if_neg (by decide)]
  have hve:=fun w=>endVote_any (n:Int) v w
  go_enter Tryz.func54,Tryz.ntmps54
  go_wp2_with fail
  have hW:Below w.heap.size w w.drew:=(Below.refl _ _).drew
  have hnn:Nonempty (Lat w):=⟨⟨w,Below.refl _ _⟩⟩
  refine text_begin (S:=fun w' => ∃ u:Lat w,w' = u.val) (by kernel_rfl) ?_
  refine sgr [(0,2),(4,2)] 4 (by kernel_rfl) ⟨⟨_,hW⟩,rfl⟩ ?_
  simp only [pkE]
  repeat go_big_quiet_step (fail)
  refine wpQuiet_nil ?_
  refine cla 2 (some 11) 163 #[.agg #[.int .i64 (n:Int),.int .i64 v]] 3 (by kernel_rfl) ?_
  refine (hve _).mono ?_
  rintro e w9 ⟨rfl,hb9⟩
  replace hW:=hW.trans (hb9.mono hW.size)
  clear hb9
  refine ⟨_,rfl,⟨⟨_,hW⟩,rfl⟩,?_⟩
  simp only [Act.put,pjE]
  refine qta 3 (some 12) (.int .i64 (n:Int)) 2 (by kernel_rfl) (fun u _=>by kernel_rfl) ⟨⟨_,hW⟩,rfl⟩ ?_
  simp only [Act.put,pjE]
  refine sgr [(6,2)] 0 (by kernel_rfl) ⟨⟨_,hW⟩,rfl⟩ ?_
  simp only [pkE]
  repeat go_big_quiet_step (fail)
  refine wpQuiet_nil ?_
  refine text_end (by kernel_rfl) ?_
  go_wp2
  go_ret
  exact ⟨rfl,hW⟩

theorem brd_cur {has:Bool} {vb:Value} {rs:List RoundE} {dec:List Int} (h:Wel rs) (h4:rs.length≤4) (hd:dec.length=3) {k:Int} {r n:Nat} (v:Int) (hk:1≤k∧k≤3) (hr:r < rs.length) (hn:n < 3) :
  (brdC has vb rs dec)[plcO ⟨k,(r:Int),(n:Int),v⟩]? = some (iv (curV rs dec ⟨k,(r:Int),(n:Int),v⟩))∧(brdC has vb rs dec).set (plcO ⟨k,(r:Int),(n:Int),v⟩) (iv v)=brdC has vb (putR rs ⟨k,(r:Int),(n:Int),v⟩) (putD dec ⟨k,(r:Int),(n:Int),v⟩)∧plcO ⟨k,(r:Int),(n:Int),v⟩ < 30:=by
 have hk' : k=1∨k=2∨k=3:=by omega
 unfold plcO curV putR putD
 dsimp only
 rw [Int.toNat_natCast,Int.toNat_natCast]
 rcases hk' with rfl | rfl | rfl
 ·simp only [if_true]
  refine ⟨?_,?_,by omega⟩
  ·rw [brd_rnd h h4 _ (by omega)]
   exact rnd_rep h r hr n hn
  ·rw [brd_set h h4 r hr n (by omega) (iv v) _ (rowC_setR (wel_at h r hr) n hn v)]
   rfl
 ·simp only [if_true,if_neg (show ¬ (2:Int)=1 by decide)]
  refine ⟨?_,?_,by omega⟩
  ·rw [brd_rnd h h4 _ (by omega)]
   exact rnd_pro h r hr n hn
  ·exact brd_setP h h4 r hr n hn v
 ·simp only [if_neg (show ¬ (3:Int)=1 by decide),if_neg (show ¬ (3:Int)=2 by decide)]
  exact ⟨brd_dec h h4 hd n hn,brd_setD h h4 n v,by omega⟩

set_option maxHeartbeats 8000000 in
theorem lay_any (b:Nat) (has:Bool) (vb:Value) (rs:List RoundE) (dec:List Int) (k r n v:Int) (w:World) (hO:Opn w) (hbo:b≠0) (hB:Blk w b 58 (brdC has vb rs dec).toArray) (hF:Frm rs dec) :
  Calls Tryz.prog 24 #[.pointer (some ⟨b,0,none⟩),.agg #[.int .i64 k,.int .i64 r,.int .i64 n,.int .i64 v]] w fun e w' => e=.returned (.int .i64 (lay1 rs dec ⟨k,r,n,v⟩))∧(lay1 rs dec ⟨k,r,n,v⟩=0→Blk w' b 58 (brdC has vb (putR (reaR rs r.toNat) ⟨k,r,n,v⟩) (putD dec ⟨k,r,n,v⟩)).toArray)∧Out [b] w w' := by
 have hvf:=fun w=>voteFault_any k r n v w
 have hblt:=hB.lt
 have hb0:Below w.heap.size w (w.alloc (.cells #[.int .i64 k,.int .i64 r,.int .i64 n,.int .i64 v] 44)):=by go_grown
 have V:=Blk.new w 44 #[.int .i64 k,.int .i64 r,.int .i64 n,.int .i64 v]
 have hvl:w.heap.size≠b:=by omega
 by_cases hv:voteF ⟨k,r,n,v⟩=0
 case neg=>
  have e1:lay1 rs dec ⟨k,r,n,v⟩=voteF ⟨k,r,n,v⟩:=if_neg hv
  rw [e1]
  generalize voteF ⟨k,r,n,v⟩=C at *
  have hv' : (C != 0)=true:=by simpa using hv
  obtain ⟨p0,p1,p2,p3⟩:=V.cel4
  go_enter Tryz.func24,Tryz.ntmps24
  go_wp2_with fail
  generalize w.alloc (.cells #[.int .i64 k,.int .i64 r,.int .i64 n,.int .i64 v] 44)=W at *
  refine (hvf W).mono ?_
  rintro e w1 ⟨rfl,hb⟩
  replace hb0:=hb0.trans (hb.mono hb0.size)
  clear hb p0 p1 p2 p3
  go_wp2
  go_ret
  exact ⟨rfl,fun h=>absurd h hv,Out.of_below hb0⟩
 case pos=>
  obtain ⟨h1,h2,h3,h4,h5,_⟩:=voteF_zero hv
  dsimp only at h1 h2 h3 h4 h5
  obtain ⟨rn,rfl⟩:∃ m:Nat,r=(m:Int):=⟨r.toNat,by omega⟩
  obtain ⟨nn,rfl⟩:∃ m:Nat,n=(m:Int):=⟨n.toNat,by omega⟩
  have hrn:rn < 4:=by omega
  have hnn3:nn < 3:=by omega
  rw [Int.toNat_natCast]
  have hre:=fun w hO hB=>reach_any b 58 rs ([.bool has,vb] ++ dec.map iv) rn w hO hbo hB hF.w hF.h4 hrn
  obtain ⟨hcur,hset,hp30⟩:=brd_cur (has:=has) (vb:=vb) (dec:=dec) (reaR_wel hF.w rn) (reaR_le rn hF.h4 hrn) hF.d v h1 (reaR_lt rs rn) hnn3
  have hbl:(brdC has vb (reaR rs rn) dec).length=30:=brdC_length (reaR_wel hF.w rn) (reaR_le rn hF.h4 hrn) hF.d
  have hpl:=fun w=>placeOf_any b k rn nn v w h1 hrn hnn3
  have hbf:=fun w=>ballotOf_any k (rn:Int) (nn:Int) v w
  have HL1:Hid ((curV (reaR rs rn) dec ⟨k,(rn:Int),(nn:Int),v⟩=3∨curV (reaR rs rn) dec ⟨k,(rn:Int),(nn:Int),v⟩=v→lay1 rs dec ⟨k,(rn:Int),(nn:Int),v⟩=0)∧(¬ (curV (reaR rs rn) dec ⟨k,(rn:Int),(nn:Int),v⟩=3∨curV (reaR rs rn) dec ⟨k,(rn:Int),(nn:Int),v⟩=v)→lay1 rs dec ⟨k,(rn:Int),(nn:Int),v⟩=6)):=by
   unfold lay1
   dsimp only
   rw [if_pos hv,Int.toNat_natCast]
   exact ⟨fun h=>if_pos h,fun h=>if_neg h⟩
  have hbr:brdC has vb rs dec=rndC rs ++ ([.bool has,vb] ++ dec.map iv):=rfl
  have hbr2:brdC has vb (reaR rs rn) dec=rndC (reaR rs rn) ++ ([.bool has,vb] ++ dec.map iv):=rfl
  rw [← hbr,← hbr2] at hre
  rw [hv] at hvf
  have HSET:Hid ((brdC has vb (reaR rs rn) dec).set (plcO ⟨k,(rn:Int),(nn:Int),v⟩) (iv v)=brdC has vb (putR (reaR rs rn) ⟨k,(rn:Int),(nn:Int),v⟩) (putD dec ⟨k,(rn:Int),(nn:Int),v⟩)):=hset
  have HCUR:Hid ((brdC has vb (reaR rs rn) dec)[plcO ⟨k,(rn:Int),(nn:Int),v⟩]? = some (iv (curV (reaR rs rn) dec ⟨k,(rn:Int),(nn:Int),v⟩))):=hcur
  clear hbr hbr2 hset hcur hv h1 h2 h3 h4 h5
  generalize lay1 rs dec ⟨k,(rn:Int),(nn:Int),v⟩=L1 at *
  generalize curV (reaR rs rn) dec ⟨k,(rn:Int),(nn:Int),v⟩=CU at *
  generalize balV ⟨k,(rn:Int),(nn:Int),v⟩=BV at *
  generalize plcO ⟨k,(rn:Int),(nn:Int),v⟩=PO at *
  generalize brdC has vb (putR (reaR rs rn) ⟨k,(rn:Int),(nn:Int),v⟩) (putD dec ⟨k,(rn:Int),(nn:Int),v⟩)=cs2 at *
  generalize brdC has vb (reaR rs rn) dec=cs1 at *
  generalize brdC has vb rs dec=cs0 at *
  obtain ⟨p0,p1,p2,p3⟩:=V.cel4
  go_enter Tryz.func24,Tryz.ntmps24
  go_wp2_with fail
  replace hB:=hB.below hb0
  replace hO:=hO.below hb0
  generalize w.alloc (.cells #[.int .i64 k,.int .i64 (rn:Int),.int .i64 (nn:Int),.int .i64 v] 44)=W at *
  refine (hvf W).mono ?_
  rintro e w1 ⟨rfl,hb⟩
  replace hB:=hB.below hb
  replace hO:=hO.below hb
  replace V:=V.below hb
  replace hb0:=hb0.trans (hb.mono hb0.size)
  clear hb p0 p1 p2 p3 hvf
  have p1:=V.cell 1 _ rfl
  go_wp2_with fail
  clear p1
  have p1:=lato_cell (F:=[b]) (V.cell 1 _ rfl) (by simp only [List.mem_singleton];exact hvl)
  have hnn:Nonempty (LatO [b] w1):=⟨⟨w1,Out.refl _ _⟩⟩
  have hd1:Below w1.heap.size w1 w1.drew:=(Below.refl _ _).drew
  have hW:Out [b] w1 w1.drew:=Out.of_below hd1
  refine text_begin (S:=fun w' => ∃ u:LatO [b] w1,w' = u.val) (by kernel_rfl) ?_
  refine sgr [(0,5)] 1 (by kernel_rfl) ⟨⟨_,hW⟩,rfl⟩ ?_
  simp only [pkE]
  repeat go_big_quiet_step (fail)
  refine wpQuiet_nil ?_
  refine cla 5 (some 17) 35 #[.pointer (some ⟨b,0,none⟩),.int .i64 (rn:Int)] 0 (by kernel_rfl) ?_
  refine (hre _ (hO.below hd1) (hB.below hd1)).mono ?_
  rintro e w2 ⟨rfl,hB2,hU2⟩
  replace hU2:=hW.trans hU2
  refine ⟨_,rfl,⟨⟨_,hU2⟩,rfl⟩,?_⟩
  simp only [Act.put,pjE]
  refine text_end (by kernel_rfl) ?_
  replace V:=V.outs hU2 (by simp only [List.mem_singleton];exact hvl)
  have U:Out [b] w w2:=(Out.of_below hb0).trans hU2
  clear hnn hd1 hW hU2 p1 hre hB hO hb0
  obtain ⟨p0,p1,p2,p3⟩:=V.cel4
  go_wp2_with fail
  refine (hbf w2).mono ?_
  rintro e w3 ⟨rfl,hb⟩
  replace hB2:=hB2.below hb
  replace V:=V.below hb
  replace U:=U.call hb
  clear hb p0 p1 p2 p3 hbf
  go_wp2_with fail
  refine (hpl w3).mono ?_
  rintro e w4 ⟨rfl,hb⟩
  replace hB2:=hB2.below hb
  replace V:=V.below hb
  replace U:=U.call hb
  clear hb hpl
  have l3:=V.lat 3 _ rfl
  have lc:∀ u:Lat w4,u.val.cell? ⟨b,PO,none⟩=some (.int .i64 CU):=hB2.lat PO _ (by rw [List.getElem?_toArray];exact HCUR.out)
  have HF:Hid (∀ W:World,Below w4.heap.size w4 W→W.cell? ⟨w.heap.size,3,none⟩=some (.int .i64 v)∧W.cell? ⟨b,PO,none⟩=some (.int .i64 CU)∧W.frozen? ⟨b,PO,none⟩=false∧Blk (W.setCell ⟨b,PO,none⟩ (.int .i64 v)) b 58 cs2.toArray∧Out [b] w (W.setCell ⟨b,PO,none⟩ (.int .i64 v))):=fun W hb=>by
   have hB3:=hB2.below hb
   have h1:=hB3.set PO (iv v)
   rw [List.setIfInBounds_toArray,HSET.out] at h1
   exact ⟨(V.below hb).cell 3 _ rfl,hB3.cell PO _ (by rw [List.getElem?_toArray];exact HCUR.out),hB3.frozen PO,h1,(U.call hb).set (b:=b) (j:=PO) (u:=iv v) (by simp)⟩
  clear HSET HCUR hB2 V hbl
  by_cases h3:CU=3
  ·have e3:(CU != 3)=false:=by rw [h3];rfl
   have e9:=HL1.out.1 (Or.inl h3)
   subst e9
   clear HL1 h3
   go_wp2_with fail
   have hW:Below w4.heap.size w4 w4.drew:=(Below.refl _ _).drew
   have hnn:Nonempty (Lat w4):=⟨⟨w4,Below.refl _ _⟩⟩
   refine text_begin (S:=fun w' => ∃ u:Lat w4,w' = u.val) (by kernel_rfl) ?_
   refine sgr [(0,12)] 0 (by kernel_rfl) ⟨⟨_,hW⟩,rfl⟩ ?_
   simp only [pkE]
   repeat go_big_quiet_step (fail)
   refine wpQuiet_nil ?_
   refine text_end (by kernel_rfl) ?_
   obtain ⟨g1,g2,g3,g4,g5⟩:=HF.out _ hW
   have HG:Hid (_∧_):=And.intro g4 g5
   clear g4 g5 HF
   go_wp2
   go_ret
   exact ⟨rfl,HG.out.1,HG.out.2⟩
  ·have e3:(CU != 3)=true:=by simpa using h3
   by_cases hcv:CU=v
   ·have e4:(CU != v)=false:=by rw [hcv];simp
    have e9:=HL1.out.1 (Or.inr hcv)
    subst e9
    clear HL1 h3 hcv
    go_wp2_with fail
    have hW:Below w4.heap.size w4 w4.drew:=(Below.refl _ _).drew
    have hnn:Nonempty (Lat w4):=⟨⟨w4,Below.refl _ _⟩⟩
    refine text_begin (S:=fun w' => ∃ u:Lat w4,w' = u.val) (by kernel_rfl) ?_
    refine sgr [(0,12)] 0 (by kernel_rfl) ⟨⟨_,hW⟩,rfl⟩ ?_
    simp only [pkE]
    repeat go_big_quiet_step (fail)
    refine wpQuiet_nil ?_
    refine text_end (by kernel_rfl) ?_
    obtain ⟨g1,g2,g3,g4,g5⟩:=HF.out _ hW
    have HG:Hid (_∧_):=And.intro g4 g5
    clear g4 g5 HF
    go_wp2
    go_ret
    exact ⟨rfl,HG.out.1,HG.out.2⟩
   ·have e4:(CU != v)=true:=by simpa using hcv
    have e9:=HL1.out.2 (fun h=>h.elim h3 hcv)
    subst e9
    clear HL1 h3 hcv HF
    go_wp2_with fail
    have hW:Below w4.heap.size w4 w4.drew:=(Below.refl _ _).drew
    have hnn:Nonempty (Lat w4):=⟨⟨w4,Below.refl _ _⟩⟩
    refine text_begin (S:=fun w' => ∃ u:Lat w4,w' = u.val) (by kernel_rfl) ?_
    refine sgr [(0,12)] 0 (by kernel_rfl) ⟨⟨_,hW⟩,rfl⟩ ?_
    simp only [pkE]
    repeat go_big_quiet_step (fail)
    refine wpQuiet_nil ?_
    refine text_end (by kernel_rfl) ?_
    replace U:=U.call hW
    go_wp2
    go_ret
    exact ⟨rfl,fun h=>absurd h (by decide),U⟩

end Go.Proofs.YtdhdnppbgaikfaaGreatDoor

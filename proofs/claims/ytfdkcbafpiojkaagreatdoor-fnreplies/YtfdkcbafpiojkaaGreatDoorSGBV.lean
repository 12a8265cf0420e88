/- Texts joined, with what the laws reach alone. -/
import Derived.Test.YtfdkcbafpiojkaaGreatDoorSGBU
import Derived.Test.YtfdkcbafpiojkaaGreatDoorSGBG
set_option linter.unusedVariables false
set_option linter.unusedSimpArgs false
namespace Go.Proofs.YtfdkcbafpiojkaaGreatDoor
open Go.RowKit
open Go.BigFrame
set_option maxRecDepth 100000
/-- What a history answers: its code, its answer and its value. -/
def repL (f:TxnD→Bool):List (TxnD × Int × Int × List UndoD)→Int × Int × Int
 | []=>(4,0,0)
 | d :: r=>if f d.1=true then (0,d.2.1,d.2.2.1) else repL f r

theorem repL_at (f:TxnD→Bool) (ds:List DeedQ) (k:Nat) (h:k < ds.length):repL f ((ds.drop k).map DeedQ.e4)=if f (DeedQ.t ds[k])=true then (0,ds[k].code,ds[k].val) else repL f ((ds.drop (k + 1)).map DeedQ.e4):=by
 rw [List.drop_eq_getElem_cons h]
 rfl

def askS (s q:Int) (t:TxnD):Bool:=t.session == s && t.seq == q

def askI (i:Int) (t:TxnD):Bool:=t.id == i

set_option maxHeartbeats 1000000 in
theorem askS_any (i s q:Int) (a:Option Addr) (n c:Nat) (xs:List ActD) (x y:Int) (b1 b2:Nat) (w:World) (h1:Blk w b1 2 #[.int .i64 x]) (h2:Blk w b2 2 #[.int .i64 y]) :
  Calls Tryz.prog 106 #[.agg #[.int .i64 i,.int .i64 s,.int .i64 q,.slice a n c],.pointer (some ⟨b1,0,none⟩),.pointer (some ⟨b2,0,none⟩)] w fun e w' => e=.returned (.bool (askS x y ⟨i,s,q,xs⟩))∧Below w.heap.size w w' := by
 have hB:Below w.heap.size w (w.alloc (.cells #[.int .i64 i,.int .i64 s,.int .i64 q,.slice a n c] 49)):=by go_grown
 have x1:=(h1.below hB).cell 0 _ rfl
 have x2:=(h2.below hB).cell 0 _ rfl
 unfold askS
 dsimp only
 cases e1:(s == x)
 ·go_enter Tryz.func106,Tryz.ntmps106
  go_wp2
  go_ret
  exact ⟨rfl,hB⟩
 ·go_enter Tryz.func106,Tryz.ntmps106
  go_wp2
  go_ret
  exact ⟨rfl,hB⟩

set_option maxHeartbeats 1000000 in
theorem askI_any (i s q:Int) (a:Option Addr) (n c:Nat) (xs:List ActD) (x:Int) (b1:Nat) (w:World) (h1:Blk w b1 2 #[.int .i64 x]) :
  Calls Tryz.prog 104 #[.agg #[.int .i64 i,.int .i64 s,.int .i64 q,.slice a n c],.pointer (some ⟨b1,0,none⟩)] w fun e w' => e=.returned (.bool (askI x ⟨i,s,q,xs⟩))∧Below w.heap.size w w' := by
 have hB:Below w.heap.size w (w.alloc (.cells #[.int .i64 i,.int .i64 s,.int .i64 q,.slice a n c] 49)):=by go_grown
 have x1:=(h1.below hB).cell 0 _ rfl
 unfold askI
 dsimp only
 go_enter Tryz.func104,Tryz.ntmps104
 go_wp2
 go_ret
 exact ⟨rfl,hB⟩

set_option maxRecDepth 100000 in
set_option maxHeartbeats 4000000 in
theorem replyToN_any (w0:World) (v iv:Value) (ds:List DeedQ) (x y:Int) (b1 b2:Nat) (w:World) (h:(deedNK w0).At w v ds) (h1:Blk w b1 2 #[.int .i64 x]) (h2:Blk w b2 2 #[.int .i64 y]) (hl:ds.length≤100) :
  Calls Tryz.prog 105 #[.agg #[v,iv],.func (.func 106) #[] #[.pointer (some ⟨b1,0,none⟩),.pointer (some ⟨b2,0,none⟩)]] w fun e w' => e=.returned (.agg #[.int .i64 (repL (askS x y) (ds.map DeedQ.e4)).1,.int .i64 (repL (askS x y) (ds.map DeedQ.e4)).2.1,.int .i64 (repL (askS x y) (ds.map DeedQ.e4)).2.2])∧Below w.heap.size w w' := by
 obtain ⟨a,cap,rfl⟩:=h.shape
 have HZ:Hid (repL (askS x y) ((ds.drop 0).map DeedQ.e4)=repL (askS x y) (ds.map DeedQ.e4)):=by rw [List.drop_zero];exact rfl
 generalize repL (askS x y) (ds.map DeedQ.e4)=E at *
 have hbX:Below w.heap.size w ((w.alloc (.cells #[.slice a ds.length cap,iv] 98)).alloc (.cells #[.int .i64 0,.int .i64 0,.int .i64 0] 83)):=by go_grown
 have BX0:=Blk.new w 98 #[.slice a ds.length cap,iv]
 have hbX2:Below (w.alloc (.cells #[.slice a ds.length cap,iv] 98)).heap.size (w.alloc (.cells #[.slice a ds.length cap,iv] 98)) ((w.alloc (.cells #[.slice a ds.length cap,iv] 98)).alloc (.cells #[.int .i64 0,.int .i64 0,.int .i64 0] 83)):=by go_grown
 have BX:=BX0.below hbX2
 have RB:=Blk.new (w.alloc (.cells #[.slice a ds.length cap,iv] 98)) 83 #[.int .i64 0,.int .i64 0,.int .i64 0]
 simp only [World.size_alloc] at RB
 have hg:w.heap.size≤w.heap.size + 1:=by omega
 have x0:=BX.cell 0 _ rfl
 have hli:(ds.length:Int)≤100:=by omega
 clear BX0 hbX2
 go_enter Tryz.func105,Tryz.ntmps105
 go_wp2
 clear x0 BX
 generalize (w.alloc (.cells #[.slice a ds.length cap,iv] 98)).alloc (.cells #[.int .i64 0,.int .i64 0,.int .i64 0] 83)=WX at *
 generalize hgg:w.heap.size + 1=g at *
 clear hgg
 go_loopw [10] (fun j wr=>∃ k:Nat,k≤ds.length∧j=.int .i64 k∧Below w.heap.size w wr∧Blk wr g 83 #[.int .i64 0,.int .i64 0,.int .i64 0]∧Hid (repL (askS x y) ((ds.drop k).map DeedQ.e4)=E)) (fun j _=>ds.length - (intOf j).toNat)
 case atStart=>exact ⟨0,Nat.zero_le _,rfl,hbX,RB,HZ⟩
 case round=>
  clear HZ hbX RB
  obtain ⟨k,hk,rfl,hb,RB,HA⟩:=hrel
  by_cases hlt:k < ds.length
  ·obtain ⟨b,off,rfl,hbs,hc,hrd⟩:=(h.below hb).cell (by show 0 < 6;decide) k hlt
   have hc' : ∀ j x,((deedNK w0).cells ds[k])[j]? = some x→wr.cell? ⟨b,off + k * 6 + j,none⟩=some x:=hc
   have c0:=hc' 0 (.int .i64 ds[k].i) rfl
   have c1:=hc' 1 (.int .i64 ds[k].s) rfl
   have c2:=hc' 2 (.int .i64 ds[k].q) rfl
   have c3:=hc' 3 (ds[k].va) rfl
   have c4:=hc' 4 (.int .i64 ds[k].code) rfl
   have c5:=hc' 5 (.int .i64 ds[k].val) rfl
   skip
   rw [Nat.add_zero] at c0
   have HY:Hid ((askS x y) (DeedQ.t ds[k])=true→E=(0,ds[k].code,ds[k].val)):=fun hx=>by rw [← HA.out,repL_at _ ds k hlt,if_pos hx]
   have HN:Hid ((askS x y) (DeedQ.t ds[k])=false→repL (askS x y) ((ds.drop (k + 1)).map DeedQ.e4)=E):=fun hx=>by rw [← HA.out,repL_at _ ds k hlt,if_neg (by simp [hx])]
   clear HA hc hc'
   generalize ds[k]=p at *
   obtain ⟨i,s,q,va,acts,code,val,lv,us⟩:=p
   replace hrd:actK.At w0 va acts:=hrd
   skip
   obtain ⟨aa,ac,rfl⟩:=hrd.shape
   dsimp only [DeedQ.t] at c0 c1 c2 c3 c4 c5 HY HN
   have hbY:Below wr.heap.size wr (wr.alloc (.cells #[.int .i64 i,.int .i64 s,.int .i64 q,.slice aa acts.length ac,.int .i64 code,.int .i64 val] 222)):=by go_grown
   have BY:=Blk.new wr 222 #[.int .i64 i,.int .i64 s,.int .i64 q,.slice aa acts.length ac,.int .i64 code,.int .i64 val]
   have hq:=askS_any i s q aa acts.length ac acts x y b1 b2 _ ((h1.below hb).below hbY) ((h2.below hb).below hbY)
   generalize askS x y ⟨i,s,q,acts⟩=S at *
   have hlti:(k:Int) < (ds.length:Int):=by omega
   replace RB:=RB.below hbY
   replace hb:=hb.trans (hbY.mono hb.size)
   have y0:=BY.cell 0 _ rfl
   have y1:=BY.cell 1 _ rfl
   have y2:=BY.cell 2 _ rfl
   have y3:=BY.cell 3 _ rfl
   clear hbY
   go_wp2_with fail
   clear c0 c1 c2 c3 c4 c5 y0 y1 y2 y3
   generalize wr.alloc (.cells #[.int .i64 i,.int .i64 s,.int .i64 q,.slice aa acts.length ac,.int .i64 code,.int .i64 val] 222)=Y at *
   refine hq.mono ?_
   rintro e w2 ⟨rfl,hb2⟩
   replace hb:=hb.trans (hb2.mono hb.size)
   replace RB:=RB.below hb2
   replace BY:=BY.below hb2
   clear hq hb2 hrd hbs
   cases S with
   | true=>
    have E1:Hid (E=(0,code,val)):=HY.out rfl
    clear HY HN
    have y4:=BY.cell 4 _ rfl
    have y5:=BY.cell 5 _ rfl
    have r0:=RB.cell 0 _ rfl
    have r1:=RB.cell 1 _ rfl
    have r2:=RB.cell 2 _ rfl
    have f0:=RB.frozen 0
    have f1:=RB.frozen 1
    have f2:=RB.frozen 2
    go_wp2
    exact bodyPost_ret (v:=.agg #[.int .i64 0,.int .i64 code,.int .i64 val]) (by simp [results,Tryz.results105,go_sem,r0,r1,r2]) rfl ⟨by rw [E1.out],((hb.setCell (p:=⟨g,0,none⟩) hg _).setCell (p:=⟨g,1,none⟩) hg _).setCell (p:=⟨g,2,none⟩) hg _⟩
   | false=>
    have HR' : Hid _:=HN.out rfl
    clear HY HN BY
    go_wp2
    go_roundw
    case rel=>exact ⟨k + 1,by omega,by go_num,hb,RB,HR'⟩
    case measure=>simp [intOf];omega
  ·have E1:Hid (E=(4,0,0)):=by
    show E=_
    rw [← HA.out,List.drop_eq_nil_of_le (by omega)]
    rfl
   have hlti:¬ (k:Int) < (ds.length:Int):=by omega
   clear HA
   have r0:=RB.cell 0 _ rfl
   have r1:=RB.cell 1 _ rfl
   have r2:=RB.cell 2 _ rfl
   have f0:=RB.frozen 0
   have f1:=RB.frozen 1
   have f2:=RB.frozen 2
   go_wp2
   exact bodyPost_ret (v:=.agg #[.int .i64 4,.int .i64 0,.int .i64 0]) (by simp [results,Tryz.results105,go_sem,r0,r1,r2]) rfl ⟨by rw [E1.out],((hb.setCell (p:=⟨g,0,none⟩) hg _).setCell (p:=⟨g,1,none⟩) hg _).setCell (p:=⟨g,2,none⟩) hg _⟩

set_option maxRecDepth 100000 in
set_option maxHeartbeats 4000000 in
theorem replyToU_any (w0:World) (v iv:Value) (ds:List DeedQ) (x:Int) (b1:Nat) (w:World) (h:(deedUK w0).At w v ds) (h1:Blk w b1 2 #[.int .i64 x]) (hl:ds.length≤100) :
  Calls Tryz.prog 103 #[.agg #[v,iv],.func (.func 104) #[] #[.pointer (some ⟨b1,0,none⟩)]] w fun e w' => e=.returned (.agg #[.int .i64 (repL (askI x) (ds.map DeedQ.e4)).1,.int .i64 (repL (askI x) (ds.map DeedQ.e4)).2.1,.int .i64 (repL (askI x) (ds.map DeedQ.e4)).2.2])∧Below w.heap.size w w' := by
 obtain ⟨a,cap,rfl⟩:=h.shape
 have HZ:Hid (repL (askI x) ((ds.drop 0).map DeedQ.e4)=repL (askI x) (ds.map DeedQ.e4)):=by rw [List.drop_zero];exact rfl
 generalize repL (askI x) (ds.map DeedQ.e4)=E at *
 have hbX:Below w.heap.size w ((w.alloc (.cells #[.slice a ds.length cap,iv] 101)).alloc (.cells #[.int .i64 0,.int .i64 0,.int .i64 0] 83)):=by go_grown
 have BX0:=Blk.new w 101 #[.slice a ds.length cap,iv]
 have hbX2:Below (w.alloc (.cells #[.slice a ds.length cap,iv] 101)).heap.size (w.alloc (.cells #[.slice a ds.length cap,iv] 101)) ((w.alloc (.cells #[.slice a ds.length cap,iv] 101)).alloc (.cells #[.int .i64 0,.int .i64 0,.int .i64 0] 83)):=by go_grown
 have BX:=BX0.below hbX2
 have RB:=Blk.new (w.alloc (.cells #[.slice a ds.length cap,iv] 101)) 83 #[.int .i64 0,.int .i64 0,.int .i64 0]
 simp only [World.size_alloc] at RB
 have hg:w.heap.size≤w.heap.size + 1:=by omega
 have x0:=BX.cell 0 _ rfl
 have hli:(ds.length:Int)≤100:=by omega
 clear BX0 hbX2
 go_enter Tryz.func103,Tryz.ntmps103
 go_wp2
 clear x0 BX
 generalize (w.alloc (.cells #[.slice a ds.length cap,iv] 101)).alloc (.cells #[.int .i64 0,.int .i64 0,.int .i64 0] 83)=WX at *
 generalize hgg:w.heap.size + 1=g at *
 clear hgg
 go_loopw [10] (fun j wr=>∃ k:Nat,k≤ds.length∧j=.int .i64 k∧Below w.heap.size w wr∧Blk wr g 83 #[.int .i64 0,.int .i64 0,.int .i64 0]∧Hid (repL (askI x) ((ds.drop k).map DeedQ.e4)=E)) (fun j _=>ds.length - (intOf j).toNat)
 case atStart=>exact ⟨0,Nat.zero_le _,rfl,hbX,RB,HZ⟩
 case round=>
  clear HZ hbX RB
  obtain ⟨k,hk,rfl,hb,RB,HA⟩:=hrel
  by_cases hlt:k < ds.length
  ·obtain ⟨b,off,rfl,hbs,hc,hrd⟩:=(h.below hb).cell (by show 0 < 7;decide) k hlt
   have hc' : ∀ j x,((deedUK w0).cells ds[k])[j]? = some x→wr.cell? ⟨b,off + k * 7 + j,none⟩=some x:=hc
   have c0:=hc' 0 (.int .i64 ds[k].i) rfl
   have c1:=hc' 1 (.int .i64 ds[k].s) rfl
   have c2:=hc' 2 (.int .i64 ds[k].q) rfl
   have c3:=hc' 3 (ds[k].va) rfl
   have c4:=hc' 4 (.int .i64 ds[k].code) rfl
   have c5:=hc' 5 (.int .i64 ds[k].val) rfl
   have c6:=hc' 6 (ds[k].lv) rfl
   rw [Nat.add_zero] at c0
   have HY:Hid ((askI x) (DeedQ.t ds[k])=true→E=(0,ds[k].code,ds[k].val)):=fun hx=>by rw [← HA.out,repL_at _ ds k hlt,if_pos hx]
   have HN:Hid ((askI x) (DeedQ.t ds[k])=false→repL (askI x) ((ds.drop (k + 1)).map DeedQ.e4)=E):=fun hx=>by rw [← HA.out,repL_at _ ds k hlt,if_neg (by simp [hx])]
   clear HA hc hc'
   generalize ds[k]=p at *
   obtain ⟨i,s,q,va,acts,code,val,lv,us⟩:=p
   obtain ⟨hrd,hrl⟩:actK.At w0 va acts∧undoK.At wr lv us:=hrd
   obtain ⟨la,lc,rfl⟩:=hrl.shape
   obtain ⟨aa,ac,rfl⟩:=hrd.shape
   dsimp only [DeedQ.t] at c0 c1 c2 c3 c4 c5 HY HN
   have hbY:Below wr.heap.size wr (wr.alloc (.cells #[.int .i64 i,.int .i64 s,.int .i64 q,.slice aa acts.length ac,.int .i64 code,.int .i64 val,.slice la us.length lc] 120)):=by go_grown
   have BY:=Blk.new wr 120 #[.int .i64 i,.int .i64 s,.int .i64 q,.slice aa acts.length ac,.int .i64 code,.int .i64 val,.slice la us.length lc]
   have hq:=askI_any i s q aa acts.length ac acts x b1 _ ((h1.below hb).below hbY)
   generalize askI x ⟨i,s,q,acts⟩=S at *
   have hlti:(k:Int) < (ds.length:Int):=by omega
   replace RB:=RB.below hbY
   replace hb:=hb.trans (hbY.mono hb.size)
   have y0:=BY.cell 0 _ rfl
   have y1:=BY.cell 1 _ rfl
   have y2:=BY.cell 2 _ rfl
   have y3:=BY.cell 3 _ rfl
   clear hbY
   go_wp2_with fail
   clear c0 c1 c2 c3 c4 c5 c6 y0 y1 y2 y3
   generalize wr.alloc (.cells #[.int .i64 i,.int .i64 s,.int .i64 q,.slice aa acts.length ac,.int .i64 code,.int .i64 val,.slice la us.length lc] 120)=Y at *
   refine hq.mono ?_
   rintro e w2 ⟨rfl,hb2⟩
   replace hb:=hb.trans (hb2.mono hb.size)
   replace RB:=RB.below hb2
   replace BY:=BY.below hb2
   clear hq hb2 hrd hbs
   cases S with
   | true=>
    have E1:Hid (E=(0,code,val)):=HY.out rfl
    clear HY HN
    have y4:=BY.cell 4 _ rfl
    have y5:=BY.cell 5 _ rfl
    have r0:=RB.cell 0 _ rfl
    have r1:=RB.cell 1 _ rfl
    have r2:=RB.cell 2 _ rfl
    have f0:=RB.frozen 0
    have f1:=RB.frozen 1
    have f2:=RB.frozen 2
    go_wp2
    exact bodyPost_ret (v:=.agg #[.int .i64 0,.int .i64 code,.int .i64 val]) (by simp [results,Tryz.results103,go_sem,r0,r1,r2]) rfl ⟨by rw [E1.out],((hb.setCell (p:=⟨g,0,none⟩) hg _).setCell (p:=⟨g,1,none⟩) hg _).setCell (p:=⟨g,2,none⟩) hg _⟩
   | false=>
    have HR' : Hid _:=HN.out rfl
    clear HY HN BY
    go_wp2
    go_roundw
    case rel=>exact ⟨k + 1,by omega,by go_num,hb,RB,HR'⟩
    case measure=>simp [intOf];omega
  ·have E1:Hid (E=(4,0,0)):=by
    show E=_
    rw [← HA.out,List.drop_eq_nil_of_le (by omega)]
    rfl
   have hlti:¬ (k:Int) < (ds.length:Int):=by omega
   clear HA
   have r0:=RB.cell 0 _ rfl
   have r1:=RB.cell 1 _ rfl
   have r2:=RB.cell 2 _ rfl
   have f0:=RB.frozen 0
   have f1:=RB.frozen 1
   have f2:=RB.frozen 2
   go_wp2
   exact bodyPost_ret (v:=.agg #[.int .i64 4,.int .i64 0,.int .i64 0]) (by simp [results,Tryz.results103,go_sem,r0,r1,r2]) rfl ⟨by rw [E1.out],((hb.setCell (p:=⟨g,0,none⟩) hg _).setCell (p:=⟨g,1,none⟩) hg _).setCell (p:=⟨g,2,none⟩) hg _⟩

end Go.Proofs.YtfdkcbafpiojkaaGreatDoor
namespace Go.Proofs.YtfdkcbafpiojkaaGreatDoor
open Go.RowKit
open Go.BigFrame
set_option maxRecDepth 100000
/-- What FinalOf answers. -/
def finR (r:RepE) (x y:Int):Int × Int × Int:=if repF r=0 then repL (askS x y) (deedsE [] r.done) else (repF r,0,0)

/-- What TentOf answers. -/
def tenR (r:RepE) (x:Int):Int × Int × Int:=if repF r=0 then repL (askI x) (deedsE (allI [] r.done) r.tent) else (repF r,0,0)

theorem len_e4 {ds:List DeedQ} {xs:List ItemD} {E:List TxnD} (h:ds.map DeedQ.e4=deedsE xs E):ds.length=E.length:=by
 have:=congrArg List.length h
 rw [List.length_map,deeds_len] at this
 exact this

theorem checkedN_any (p:RepQ) (w:World) (h:repK.rd w p) (nd:NiceV p.vd) (nt:NiceV p.vt) (hl:p.n≤1048576) :
  Calls Tryz.prog 80 #[.agg #[p.vd,p.vb,p.vt,p.vu,p.vn]] w fun e w' => ∃ (a0 a1 a2 a3:Option Addr) (l0 c0 l1 c1 l2 c2 l3 c3:Nat),e=.returned (.tuple #[.agg #[.slice a0 l0 c0,.slice a1 l1 c1,.slice a2 l2 c2,.slice a3 l3 c3],misC (repF p.e)])∧Hid (repF p.e=0→∃ w1 ds,(deedNK w1).At w' (.slice a0 l0 c0) ds∧ds.map DeedQ.e4=deedsE [] p.e.done∧ds.length≤100)∧Below w.heap.size w w' := by
 refine (checked_any p w h nd nt hl).mono ?_
 rintro e w' ⟨a0,a1,a2,a3,l0,c0,l1,c1,l2,c2,l3,c3,rfl,HC,hb⟩
 refine ⟨a0,a1,a2,a3,l0,c0,l1,c1,l2,c2,l3,c3,rfl,fun h0=>?_,hb⟩
 obtain ⟨w1,_,ds,us,rb,B0,R,e1,_⟩:=HC h0
 refine ⟨w1,ds,Kind.at_of_row (K:=deedNK w1) R.oN R.aN,e1,?_⟩
 have:=(rep_zero h0).1.1
 have l:=len_e4 e1
 change (p.done.map TxnQ.e).length≤16 at this
 omega

theorem checkedU_any (p:RepQ) (w:World) (h:repK.rd w p) (nd:NiceV p.vd) (nt:NiceV p.vt) (hl:p.n≤1048576) :
  Calls Tryz.prog 80 #[.agg #[p.vd,p.vb,p.vt,p.vu,p.vn]] w fun e w' => ∃ (a0 a1 a2 a3:Option Addr) (l0 c0 l1 c1 l2 c2 l3 c3:Nat),e=.returned (.tuple #[.agg #[.slice a0 l0 c0,.slice a1 l1 c1,.slice a2 l2 c2,.slice a3 l3 c3],misC (repF p.e)])∧Hid (repF p.e=0→∃ w1 us,(deedUK w1).At w' (.slice a2 l2 c2) us∧us.map DeedQ.e4=deedsE (allI [] p.e.done) p.e.tent∧us.length≤100)∧Below w.heap.size w w' := by
 refine (checked_any p w h nd nt hl).mono ?_
 rintro e w' ⟨a0,a1,a2,a3,l0,c0,l1,c1,l2,c2,l3,c3,rfl,HC,hb⟩
 refine ⟨a0,a1,a2,a3,l0,c0,l1,c1,l2,c2,l3,c3,rfl,fun h0=>?_,hb⟩
 obtain ⟨w1,_,ds,us,rb,B0,R,_,e1,_⟩:=HC h0
 refine ⟨w1,us,Kind.at_of_row (K:=deedUK w1) R.oU (fun p hp=>⟨(R.aU p hp).1,(R.aU p hp).2.at⟩),e1,?_⟩
 have:=(rep_zero h0).1.2
 have l:=len_e4 e1
 change (p.tent.map TxnQ.e).length≤8 at this
 omega

set_option maxRecDepth 100000 in
set_option maxHeartbeats 4000000 in
theorem implFinalOf_any (p:RepQ) (x y:Int) (w:World) (hg:ErrT w) (h:repK.rd w p) (nd:NiceV p.vd) (nt:NiceV p.vt) (hl:p.n≤1048576) :
  Calls Tryz.prog 47 #[.agg #[p.vd,p.vb,p.vt,p.vu,p.vn],.int .i64 x,.int .i64 y] w fun e w' => e=.returned (.agg #[.int .i64 (finR p.e x y).1,.int .i64 (finR p.e x y).2.1,.int .i64 (finR p.e x y).2.2])∧Below w.heap.size w w' := by
 have hck:=fun w h=>checkedN_any p w h nd nt hl
 have hr:=fun (w' : World) hb=>repK.rd_below (w' := w') h hb
 have HE:Hid ((repF p.e=0→finR p.e x y=repL (askS x y) (deedsE [] p.e.done))∧(repF p.e≠0→finR p.e x y=(repF p.e,0,0))):=⟨fun h0=>if_pos h0,fun h0=>if_neg h0⟩
 generalize finR p.e x y=E at *
 generalize deedsE [] p.e.done=DE at *
 have hco:=fun w hg=>codeOf_any (repF p.e) w hg
 generalize repF p.e=c at *
 obtain ⟨pvd,pd,pvb,pb,pvt,pt,pvu,pu,pvn,pn⟩:=p
 obtain ⟨p0,p5,rfl⟩:∃ a c,pvd=.slice a pd.length c:=h.1.shape
 obtain ⟨p1,p6,rfl⟩:∃ a c,pvb=.slice a pb.length c:=h.2.1.shape
 obtain ⟨p2,p7,rfl⟩:∃ a c,pvt=.slice a pt.length c:=h.2.2.1.shape
 obtain ⟨p3,p8,rfl⟩:∃ a c,pvu=.slice a pu.length c:=h.2.2.2.1.shape
 obtain ⟨p4,p9,rfl⟩:∃ a c,pvn=.slice a pn.length c:=h.2.2.2.2.shape
 dsimp only at hck hr
 have hb0:Below w.heap.size w ((((w.alloc (.cells #[.slice p0 pd.length p5,.slice p1 pb.length p6,.slice p2 pt.length p7,.slice p3 pu.length p8,.slice p4 pn.length p9] 32)).alloc (.cells #[.int .i64 x] 2)).alloc (.cells #[.int .i64 y] 2)).alloc (.cells #[.int .i64 0,.int .i64 0,.int .i64 0] 83)):=by go_grown
 have B:=Blk.new w 32 #[.slice p0 pd.length p5,.slice p1 pb.length p6,.slice p2 pt.length p7,.slice p3 pu.length p8,.slice p4 pn.length p9]
 replace B:=B.below (show Below (w.alloc (.cells #[.slice p0 pd.length p5,.slice p1 pb.length p6,.slice p2 pt.length p7,.slice p3 pu.length p8,.slice p4 pn.length p9] 32)).heap.size (w.alloc (.cells #[.slice p0 pd.length p5,.slice p1 pb.length p6,.slice p2 pt.length p7,.slice p3 pu.length p8,.slice p4 pn.length p9] 32)) ((((w.alloc (.cells #[.slice p0 pd.length p5,.slice p1 pb.length p6,.slice p2 pt.length p7,.slice p3 pu.length p8,.slice p4 pn.length p9] 32)).alloc (.cells #[.int .i64 x] 2)).alloc (.cells #[.int .i64 y] 2)).alloc (.cells #[.int .i64 0,.int .i64 0,.int .i64 0] 83)) by go_grown)
 have B1:=Blk.new (w.alloc (.cells #[.slice p0 pd.length p5,.slice p1 pb.length p6,.slice p2 pt.length p7,.slice p3 pu.length p8,.slice p4 pn.length p9] 32)) 2 #[.int .i64 x]
 replace B1:=B1.below (show Below ((w.alloc (.cells #[.slice p0 pd.length p5,.slice p1 pb.length p6,.slice p2 pt.length p7,.slice p3 pu.length p8,.slice p4 pn.length p9] 32)).alloc (.cells #[.int .i64 x] 2)).heap.size ((w.alloc (.cells #[.slice p0 pd.length p5,.slice p1 pb.length p6,.slice p2 pt.length p7,.slice p3 pu.length p8,.slice p4 pn.length p9] 32)).alloc (.cells #[.int .i64 x] 2)) ((((w.alloc (.cells #[.slice p0 pd.length p5,.slice p1 pb.length p6,.slice p2 pt.length p7,.slice p3 pu.length p8,.slice p4 pn.length p9] 32)).alloc (.cells #[.int .i64 x] 2)).alloc (.cells #[.int .i64 y] 2)).alloc (.cells #[.int .i64 0,.int .i64 0,.int .i64 0] 83)) by go_grown)
 simp only [World.size_alloc] at B1
 have B2:=Blk.new ((w.alloc (.cells #[.slice p0 pd.length p5,.slice p1 pb.length p6,.slice p2 pt.length p7,.slice p3 pu.length p8,.slice p4 pn.length p9] 32)).alloc (.cells #[.int .i64 x] 2)) 2 #[.int .i64 y]
 replace B2:=B2.below (show Below (((w.alloc (.cells #[.slice p0 pd.length p5,.slice p1 pb.length p6,.slice p2 pt.length p7,.slice p3 pu.length p8,.slice p4 pn.length p9] 32)).alloc (.cells #[.int .i64 x] 2)).alloc (.cells #[.int .i64 y] 2)).heap.size (((w.alloc (.cells #[.slice p0 pd.length p5,.slice p1 pb.length p6,.slice p2 pt.length p7,.slice p3 pu.length p8,.slice p4 pn.length p9] 32)).alloc (.cells #[.int .i64 x] 2)).alloc (.cells #[.int .i64 y] 2)) ((((w.alloc (.cells #[.slice p0 pd.length p5,.slice p1 pb.length p6,.slice p2 pt.length p7,.slice p3 pu.length p8,.slice p4 pn.length p9] 32)).alloc (.cells #[.int .i64 x] 2)).alloc (.cells #[.int .i64 y] 2)).alloc (.cells #[.int .i64 0,.int .i64 0,.int .i64 0] 83)) by go_grown)
 simp only [World.size_alloc] at B2
 have RB:=Blk.new (((w.alloc (.cells #[.slice p0 pd.length p5,.slice p1 pb.length p6,.slice p2 pt.length p7,.slice p3 pu.length p8,.slice p4 pn.length p9] 32)).alloc (.cells #[.int .i64 x] 2)).alloc (.cells #[.int .i64 y] 2)) 83 #[.int .i64 0,.int .i64 0,.int .i64 0]
 simp only [World.size_alloc] at RB
 have q0:=B.cell 0 _ rfl
 have q1:=B.cell 1 _ rfl
 have q2:=B.cell 2 _ rfl
 have q3:=B.cell 3 _ rfl
 have q4:=B.cell 4 _ rfl
 go_enter Tryz.func47,Tryz.ntmps47
 go_wp2_with fail
 clear q0 q1 q2 q3 q4 B
 have hg0:=hg.below hb0
 have hr0:=hr _ hb0
 generalize ((((w.alloc (.cells #[.slice p0 pd.length p5,.slice p1 pb.length p6,.slice p2 pt.length p7,.slice p3 pu.length p8,.slice p4 pn.length p9] 32)).alloc (.cells #[.int .i64 x] 2)).alloc (.cells #[.int .i64 y] 2)).alloc (.cells #[.int .i64 0,.int .i64 0,.int .i64 0] 83))=W at *
 have hg9:w.heap.size≤w.heap.size + 1 + 1 + 1:=by omega
 generalize hgg:w.heap.size + 1 + 1 + 1=g at *
 generalize hgg2:w.heap.size + 1 + 1=g2 at *
 generalize hgg1:w.heap.size + 1=g1 at *
 clear hgg hgg2 hgg1
 refine (hck W hr0).mono ?_
 rintro e w2 ⟨a0,a1,a2,a3,l0,c0,l1,c1,l2,c2,l3,c3,rfl,HC,hb2⟩
 replace hb0:=hb0.trans (hb2.mono hb0.size)
 replace B1:=B1.below hb2
 replace B2:=B2.below hb2
 replace RB:=RB.below hb2
 have hg2' := hg0.below hb2
 have hbA:Below w2.heap.size w2 (w2.alloc (.cells #[.slice a0 l0 c0,.slice a1 l1 c1,.slice a2 l2 c2,.slice a3 l3 c3] 103)):=by go_grown
 have BR:=Blk.new w2 103 #[.slice a0 l0 c0,.slice a1 l1 c1,.slice a2 l2 c2,.slice a3 l3 c3]
 have hco2:=hco _ (hg2'.below hbA)
 replace B1:=B1.below hbA
 replace B2:=B2.below hbA
 replace RB:=RB.below hbA
 replace hb0:=hb0.trans (hbA.mono hb0.size)
 clear hck hb2
 generalize misC c=m at *
 go_wp2_with fail
 generalize w2.alloc (.cells #[.slice a0 l0 c0,.slice a1 l1 c1,.slice a2 l2 c2,.slice a3 l3 c3] 103)=W2 at *
 refine hco2.mono ?_
 rintro e w4 ⟨rfl,hb4⟩
 replace hb0:=hb0.trans (hb4.mono hb0.size)
 replace B1:=B1.below hb4
 replace B2:=B2.below hb4
 replace RB:=RB.below hb4
 replace BR:=BR.below hb4
 have hbA4:=hbA.trans (hb4.mono hbA.size)
 clear hco hco2 hb4 hbA
 by_cases hc:c=0
 ·obtain ⟨w1,ds,hat,hde,hds⟩:=HC.out hc
  have hE:=HE.out.1 hc
  subst hc
  obtain ⟨aa,cc,hvv⟩:=hat.shape
  have hq:=replyToN_any w1 (.slice a0 l0 c0) (.slice a1 l1 c1) ds x y g1 g2 _ (hat.below hbA4) B1 B2 hds
  rw [hde,← hE] at hq
  clear HC HE hat hbA4 hde hE hvv
  have k0:=BR.cell 0 _ rfl
  have k1:=BR.cell 1 _ rfl
  have k2:=BR.cell 2 _ rfl
  have k3:=BR.cell 3 _ rfl
  go_wp2_with fail
  refine hq.mono ?_
  rintro e w5 ⟨rfl,hb5⟩
  replace hb0:=hb0.trans (hb5.mono hb0.size)
  replace RB:=RB.below hb5
  clear hq hb5 k0 k1 k2 k3
  have r0:=RB.cell 0 _ rfl
  have r1:=RB.cell 1 _ rfl
  have r2:=RB.cell 2 _ rfl
  have f0:=RB.frozen 0
  have f1:=RB.frozen 1
  have f2:=RB.frozen 2
  go_wp2
  exact bodyPost_ret (v:=.agg #[.int .i64 E.1,.int .i64 E.2.1,.int .i64 E.2.2]) (by simp [results,Tryz.results47,go_sem,r0,r1,r2]) rfl ⟨rfl,((hb0.setCell (p:=⟨g,0,none⟩) hg9 _).setCell (p:=⟨g,1,none⟩) hg9 _).setCell (p:=⟨g,2,none⟩) hg9 _⟩
 ·have E1:Hid (E=(c,0,0)):=HE.out.2 hc
  have hC' : (c != 0)=true:=by simpa using hc
  clear HC HE
  have r0:=RB.cell 0 _ rfl
  have r1:=RB.cell 1 _ rfl
  have r2:=RB.cell 2 _ rfl
  have f0:=RB.frozen 0
  have f1:=RB.frozen 1
  have f2:=RB.frozen 2
  go_wp2
  exact bodyPost_ret (v:=.agg #[.int .i64 c,.int .i64 0,.int .i64 0]) (by simp [results,Tryz.results47,go_sem,r0,r1,r2]) rfl ⟨by rw [E1.out],((hb0.setCell (p:=⟨g,0,none⟩) hg9 _).setCell (p:=⟨g,1,none⟩) hg9 _).setCell (p:=⟨g,2,none⟩) hg9 _⟩

set_option maxRecDepth 100000 in
set_option maxHeartbeats 4000000 in
theorem implTentOf_any (p:RepQ) (x:Int) (w:World) (hg:ErrT w) (h:repK.rd w p) (nd:NiceV p.vd) (nt:NiceV p.vt) (hl:p.n≤1048576) :
  Calls Tryz.prog 45 #[.agg #[p.vd,p.vb,p.vt,p.vu,p.vn],.int .i64 x] w fun e w' => e=.returned (.agg #[.int .i64 (tenR p.e x).1,.int .i64 (tenR p.e x).2.1,.int .i64 (tenR p.e x).2.2])∧Below w.heap.size w w' := by
 have hck:=fun w h=>checkedU_any p w h nd nt hl
 have hr:=fun (w' : World) hb=>repK.rd_below (w' := w') h hb
 have HE:Hid ((repF p.e=0→tenR p.e x=repL (askI x) (deedsE (allI [] p.e.done) p.e.tent))∧(repF p.e≠0→tenR p.e x=(repF p.e,0,0))):=⟨fun h0=>if_pos h0,fun h0=>if_neg h0⟩
 generalize tenR p.e x=E at *
 generalize deedsE (allI [] p.e.done) p.e.tent=DE at *
 have hco:=fun w hg=>codeOf_any (repF p.e) w hg
 generalize repF p.e=c at *
 obtain ⟨pvd,pd,pvb,pb,pvt,pt,pvu,pu,pvn,pn⟩:=p
 obtain ⟨p0,p5,rfl⟩:∃ a c,pvd=.slice a pd.length c:=h.1.shape
 obtain ⟨p1,p6,rfl⟩:∃ a c,pvb=.slice a pb.length c:=h.2.1.shape
 obtain ⟨p2,p7,rfl⟩:∃ a c,pvt=.slice a pt.length c:=h.2.2.1.shape
 obtain ⟨p3,p8,rfl⟩:∃ a c,pvu=.slice a pu.length c:=h.2.2.2.1.shape
 obtain ⟨p4,p9,rfl⟩:∃ a c,pvn=.slice a pn.length c:=h.2.2.2.2.shape
 dsimp only at hck hr
 have hb0:Below w.heap.size w (((w.alloc (.cells #[.slice p0 pd.length p5,.slice p1 pb.length p6,.slice p2 pt.length p7,.slice p3 pu.length p8,.slice p4 pn.length p9] 32)).alloc (.cells #[.int .i64 x] 2)).alloc (.cells #[.int .i64 0,.int .i64 0,.int .i64 0] 83)):=by go_grown
 have B:=Blk.new w 32 #[.slice p0 pd.length p5,.slice p1 pb.length p6,.slice p2 pt.length p7,.slice p3 pu.length p8,.slice p4 pn.length p9]
 replace B:=B.below (show Below (w.alloc (.cells #[.slice p0 pd.length p5,.slice p1 pb.length p6,.slice p2 pt.length p7,.slice p3 pu.length p8,.slice p4 pn.length p9] 32)).heap.size (w.alloc (.cells #[.slice p0 pd.length p5,.slice p1 pb.length p6,.slice p2 pt.length p7,.slice p3 pu.length p8,.slice p4 pn.length p9] 32)) (((w.alloc (.cells #[.slice p0 pd.length p5,.slice p1 pb.length p6,.slice p2 pt.length p7,.slice p3 pu.length p8,.slice p4 pn.length p9] 32)).alloc (.cells #[.int .i64 x] 2)).alloc (.cells #[.int .i64 0,.int .i64 0,.int .i64 0] 83)) by go_grown)
 have B1:=Blk.new (w.alloc (.cells #[.slice p0 pd.length p5,.slice p1 pb.length p6,.slice p2 pt.length p7,.slice p3 pu.length p8,.slice p4 pn.length p9] 32)) 2 #[.int .i64 x]
 replace B1:=B1.below (show Below ((w.alloc (.cells #[.slice p0 pd.length p5,.slice p1 pb.length p6,.slice p2 pt.length p7,.slice p3 pu.length p8,.slice p4 pn.length p9] 32)).alloc (.cells #[.int .i64 x] 2)).heap.size ((w.alloc (.cells #[.slice p0 pd.length p5,.slice p1 pb.length p6,.slice p2 pt.length p7,.slice p3 pu.length p8,.slice p4 pn.length p9] 32)).alloc (.cells #[.int .i64 x] 2)) (((w.alloc (.cells #[.slice p0 pd.length p5,.slice p1 pb.length p6,.slice p2 pt.length p7,.slice p3 pu.length p8,.slice p4 pn.length p9] 32)).alloc (.cells #[.int .i64 x] 2)).alloc (.cells #[.int .i64 0,.int .i64 0,.int .i64 0] 83)) by go_grown)
 simp only [World.size_alloc] at B1
 have RB:=Blk.new ((w.alloc (.cells #[.slice p0 pd.length p5,.slice p1 pb.length p6,.slice p2 pt.length p7,.slice p3 pu.length p8,.slice p4 pn.length p9] 32)).alloc (.cells #[.int .i64 x] 2)) 83 #[.int .i64 0,.int .i64 0,.int .i64 0]
 simp only [World.size_alloc] at RB
 have q0:=B.cell 0 _ rfl
 have q1:=B.cell 1 _ rfl
 have q2:=B.cell 2 _ rfl
 have q3:=B.cell 3 _ rfl
 have q4:=B.cell 4 _ rfl
 go_enter Tryz.func45,Tryz.ntmps45
 go_wp2_with fail
 clear q0 q1 q2 q3 q4 B
 have hg0:=hg.below hb0
 have hr0:=hr _ hb0
 generalize (((w.alloc (.cells #[.slice p0 pd.length p5,.slice p1 pb.length p6,.slice p2 pt.length p7,.slice p3 pu.length p8,.slice p4 pn.length p9] 32)).alloc (.cells #[.int .i64 x] 2)).alloc (.cells #[.int .i64 0,.int .i64 0,.int .i64 0] 83))=W at *
 have hg9:w.heap.size≤w.heap.size + 1 + 1:=by omega
 generalize hgg:w.heap.size + 1 + 1=g at *
 generalize hgg1:w.heap.size + 1=g1 at *
 clear hgg hgg1
 refine (hck W hr0).mono ?_
 rintro e w2 ⟨a0,a1,a2,a3,l0,c0,l1,c1,l2,c2,l3,c3,rfl,HC,hb2⟩
 replace hb0:=hb0.trans (hb2.mono hb0.size)
 replace B1:=B1.below hb2
 replace RB:=RB.below hb2
 have hg2' := hg0.below hb2
 have hbA:Below w2.heap.size w2 (w2.alloc (.cells #[.slice a0 l0 c0,.slice a1 l1 c1,.slice a2 l2 c2,.slice a3 l3 c3] 103)):=by go_grown
 have BR:=Blk.new w2 103 #[.slice a0 l0 c0,.slice a1 l1 c1,.slice a2 l2 c2,.slice a3 l3 c3]
 have hco2:=hco _ (hg2'.below hbA)
 replace B1:=B1.below hbA
 replace RB:=RB.below hbA
 replace hb0:=hb0.trans (hbA.mono hb0.size)
 clear hck hb2
 generalize misC c=m at *
 go_wp2_with fail
 generalize w2.alloc (.cells #[.slice a0 l0 c0,.slice a1 l1 c1,.slice a2 l2 c2,.slice a3 l3 c3] 103)=W2 at *
 refine hco2.mono ?_
 rintro e w4 ⟨rfl,hb4⟩
 replace hb0:=hb0.trans (hb4.mono hb0.size)
 replace B1:=B1.below hb4
 replace RB:=RB.below hb4
 replace BR:=BR.below hb4
 have hbA4:=hbA.trans (hb4.mono hbA.size)
 clear hco hco2 hb4 hbA
 by_cases hc:c=0
 ·obtain ⟨w1,ds,hat,hde,hds⟩:=HC.out hc
  have hE:=HE.out.1 hc
  subst hc
  obtain ⟨aa,cc,hvv⟩:=hat.shape
  have hq:=replyToU_any w1 (.slice a2 l2 c2) (.slice a3 l3 c3) ds x g1 _ (hat.below hbA4) B1 hds
  rw [hde,← hE] at hq
  clear HC HE hat hbA4 hde hE hvv
  have k0:=BR.cell 0 _ rfl
  have k1:=BR.cell 1 _ rfl
  have k2:=BR.cell 2 _ rfl
  have k3:=BR.cell 3 _ rfl
  go_wp2_with fail
  refine hq.mono ?_
  rintro e w5 ⟨rfl,hb5⟩
  replace hb0:=hb0.trans (hb5.mono hb0.size)
  replace RB:=RB.below hb5
  clear hq hb5 k0 k1 k2 k3
  have r0:=RB.cell 0 _ rfl
  have r1:=RB.cell 1 _ rfl
  have r2:=RB.cell 2 _ rfl
  have f0:=RB.frozen 0
  have f1:=RB.frozen 1
  have f2:=RB.frozen 2
  go_wp2
  exact bodyPost_ret (v:=.agg #[.int .i64 E.1,.int .i64 E.2.1,.int .i64 E.2.2]) (by simp [results,Tryz.results45,go_sem,r0,r1,r2]) rfl ⟨rfl,((hb0.setCell (p:=⟨g,0,none⟩) hg9 _).setCell (p:=⟨g,1,none⟩) hg9 _).setCell (p:=⟨g,2,none⟩) hg9 _⟩
 ·have E1:Hid (E=(c,0,0)):=HE.out.2 hc
  have hC' : (c != 0)=true:=by simpa using hc
  clear HC HE
  have r0:=RB.cell 0 _ rfl
  have r1:=RB.cell 1 _ rfl
  have r2:=RB.cell 2 _ rfl
  have f0:=RB.frozen 0
  have f1:=RB.frozen 1
  have f2:=RB.frozen 2
  go_wp2
  exact bodyPost_ret (v:=.agg #[.int .i64 c,.int .i64 0,.int .i64 0]) (by simp [results,Tryz.results45,go_sem,r0,r1,r2]) rfl ⟨by rw [E1.out],((hb0.setCell (p:=⟨g,0,none⟩) hg9 _).setCell (p:=⟨g,1,none⟩) hg9 _).setCell (p:=⟨g,2,none⟩) hg9 _⟩

end Go.Proofs.YtfdkcbafpiojkaaGreatDoor
namespace Go.Proofs.YtfdkcbafpiojkaaGreatDoor
set_option maxRecDepth 100000
theorem own_del {r:RepE} (h:repF r=0) (hl:r.done.length + r.tent.length≤16):dlC r r.tent=0∧dlA r r.tent=0∧dlE r r.tent=mkR (r.done ++ r.tent) []:=by
 obtain ⟨⟨l1,l2⟩,l3,_⟩:=rep_zero h
 obtain ⟨_,hA,hP⟩:=(lst_iff _).1 l3
 obtain ⟨p1,p2,p3⟩:=List.pairwise_append.1 hP
 have ht:lstF r.tent=0:=lst_right9 l3
 have hk:frK r.done r.tent=false:=by
  unfold frK
  rw [List.any_eq_false]
  intro t ht hk
  have:knw r.done t=false:=knw_false.2 (fun a ha=>p3 a ha t ht)
  rw [this] at hk
  exact absurd hk (by decide)
 have c:dlC r r.tent=0:=by
  unfold dlC
  rw [if_pos h,if_pos ht,hk,if_neg (by simp),if_neg (by omega)]
 have hcm:comN r.tent r.tent=r.tent.length:=com_self r.tent
 have hB:bthF r.tent r.tent=0:=by unfold bthF;rw [if_pos ht];exact ht
 have hd:r.tent.drop (comN r.tent r.tent)=[]:=by rw [hcm,List.drop_length]
 obtain ⟨_,b1,_,b3⟩:=pl_all hB hd
 refine ⟨c,by rw [dlA,if_pos c];exact b1,?_⟩
 rw [dlE,if_pos c,b3,hd]
where
 com_self:∀ l:List TxnD,comN l l=l.length
  | []=>rfl
  | x :: r=>by
   unfold comN
   rw [if_pos (sameT_refl8 x),com_self r]
   rfl

/-- What one is told of a list of deeds: of the first one that is asked for. -/
theorem repL_first (f:TxnD→Bool):∀ (E:List TxnD) (xs:List ItemD) (k:Nat) (hk:k < E.length),(∀ j (hj:j < k),f (E[j]'(by omega))=false)→f E[k]=true→repL f (deedsE xs E)=(0,(allCd xs E).getD k 0,(allVl xs E).getD k 0)
 | [],_,k,hk,_,_=>by simp at hk
 | t :: r,xs,0,_,_,hf=>by
  have e:deedsE xs (t :: r)=(t,(runA xs t.acts).1,runV xs t.acts,runU xs t.acts) :: deedsE (nextI xs t) r:=rfl
  rw [e]
  unfold repL
  have hf' : f t=true:=hf
  simp only [hf',if_true]
  rfl
 | t :: r,xs,k + 1,hk,hn,hf=>by
  have e:deedsE xs (t :: r)=(t,(runA xs t.acts).1,runV xs t.acts,runU xs t.acts) :: deedsE (nextI xs t) r:=rfl
  have h0:f t=false:=hn 0 (by omega)
  rw [e]
  unfold repL
  simp only [h0]
  have hk' : k < r.length:=by simp at hk;omega
  have ih:=repL_first f r (nextI xs t) k hk' (fun j hj=>hn (j + 1) (by omega)) hf
  have e1:(allCd xs (t :: r)).getD (k + 1) 0=(allCd (nextI xs t) r).getD k 0:=rfl
  have e2:(allVl xs (t :: r)).getD (k + 1) 0=(allVl (nextI xs t) r).getD k 0:=rfl
  rw [e1,e2]
  exact ih

theorem cd_app (D E:List TxnD) (xs:List ItemD) (k:Nat):(allCd xs (D ++ E)).getD (D.length + k) 0=(allCd (allI xs D) E).getD k 0∧(allVl xs (D ++ E)).getD (D.length + k) 0=(allVl (allI xs D) E).getD k 0:=by
 induction D generalizing xs with
 | nil=>simp [allI]
 | cons t r ih=>
  have:=ih (nextI xs t)
  rw [List.length_cons,Nat.add_right_comm]
  exact this

theorem cd_pre (D E:List TxnD) (xs:List ItemD) (k:Nat) (hk:k < D.length):(allCd xs (D ++ E)).getD k 0=(allCd xs D).getD k 0∧(allVl xs (D ++ E)).getD k 0=(allVl xs D).getD k 0:=by
 induction D generalizing xs k with
 | nil=>simp at hk
 | cons t r ih=>
  cases k with
  | zero=>exact ⟨rfl,rfl⟩
  | succ k=>exact ih (nextI xs t) k (by simp at hk;omega)

theorem st_not {a b:TxnD} (h:stF a b=false):askS b.session b.seq a=false∧askI b.id a=false:=by
 unfold stF at h
 unfold askS askI
 rw [Bool.or_eq_false_iff] at h
 exact ⟨h.2,h.1⟩

theorem pw_at {l:List TxnD} (h:l.Pairwise (fun a b=>stF a b=false)) (k j:Nat) (hk:k < l.length) (hj:j < k):stF (l[j]'(by omega)) l[k]=false:=List.pairwise_iff_getElem.1 h j k (by omega) hk hj

theorem ask_self (t:TxnD):askS t.session t.seq t=true∧askI t.id t=true:=by simp [askS,askI]

theorem tent_told {r:RepE} (h:repF r=0) (k:Nat) (hk:k < r.tent.length):tenR r r.tent[k].id=(0,(allCd r.base r.tent).getD k 0,(allVl r.base r.tent).getD k 0):=by
 obtain ⟨e1,_⟩:=rep_parts h
 obtain ⟨_,l3,_⟩:=rep_zero h
 obtain ⟨_,_,hP⟩:=(lst_iff _).1 l3
 obtain ⟨p1,p2,p3⟩:=List.pairwise_append.1 hP
 unfold tenR
 rw [if_pos h,← e1]
 exact repL_first _ _ _ k hk (fun j hj=>(st_not (pw_at p2 k j hk hj)).2) (ask_self _).2

theorem done_told {r:RepE} (h:repF r=0) (k:Nat) (hk:k < r.done.length):finR r r.done[k].session r.done[k].seq=(0,(allCd [] r.done).getD k 0,(allVl [] r.done).getD k 0):=by
 obtain ⟨_,l3,_⟩:=rep_zero h
 obtain ⟨_,_,hP⟩:=(lst_iff _).1 l3
 obtain ⟨p1,p2,p3⟩:=List.pairwise_append.1 hP
 unfold finR
 rw [if_pos h]
 exact repL_first _ _ _ k hk (fun j hj=>(st_not (pw_at p1 k j hk hj)).1) (ask_self _).1

theorem own_right {r:RepE} (h:repF r=0) (hl:r.done.length + r.tent.length≤16):repF (mkR (r.done ++ r.tent) [])=0:=by
 obtain ⟨_,l3,_⟩:=rep_zero h
 exact mk_right (by rw [List.length_append];exact hl) (by simp) (by rw [List.append_nil];exact l3)

theorem told_tent {r:RepE} (h:repF r=0) (hl:r.done.length + r.tent.length≤16) (k:Nat) (hk:k < r.tent.length):finR (mkR (r.done ++ r.tent) []) r.tent[k].session r.tent[k].seq=tenR r r.tent[k].id∧(tenR r r.tent[k].id).1=0:=by
 have h2:=own_right h hl
 have hk2:r.done.length + k < (r.done ++ r.tent).length:=by rw [List.length_append];omega
 have:=done_told h2 (r.done.length + k) hk2
 have e:(mkR (r.done ++ r.tent) []).done=r.done ++ r.tent:=rfl
 have eg:(r.done ++ r.tent)[r.done.length + k]=r.tent[k]:=by
  rw [List.getElem_append_right (by omega)]
  congr 1
  omega
 have t1:=tent_told h k hk
 simp only [e] at this
 rw [eg] at this
 rw [this,t1,(cd_app _ _ _ _).1,(cd_app _ _ _ _).2,← (rep_parts h).1]
 exact ⟨rfl,rfl⟩

theorem told_done {r:RepE} (h:repF r=0) (hl:r.done.length + r.tent.length≤16) (k:Nat) (hk:k < r.done.length):finR (mkR (r.done ++ r.tent) []) r.done[k].session r.done[k].seq=finR r r.done[k].session r.done[k].seq:=by
 have h2:=own_right h hl
 have hk2:k < (r.done ++ r.tent).length:=by rw [List.length_append];omega
 have:=done_told h2 k hk2
 have e:(mkR (r.done ++ r.tent) []).done=r.done ++ r.tent:=rfl
 have eg:(r.done ++ r.tent)[k]=r.done[k]:=List.getElem_append_left hk
 simp only [e] at this
 rw [eg] at this
 rw [this,done_told h k hk,(cd_pre _ _ _ _ hk).1,(cd_pre _ _ _ _ hk).2]

theorem told_now {r:RepE} (h:repF r=0):(mkR (r.done ++ r.tent) []).base=r.now:=by
 obtain ⟨e1,e2,_⟩:=rep_parts h
 show allI [] (r.done ++ r.tent)=r.now
 rw [allI_app,← e1,e2]

end Go.Proofs.YtfdkcbafpiojkaaGreatDoor

/- Texts joined, with what the laws reach alone. -/
import Derived.Test.YtfdkcbafpiojkaaGreatDoorSGAI
import Derived.Test.YtfdkcbafpiojkaaGreatDoorSGAF
set_option linter.unusedVariables false
set_option linter.unusedSimpArgs false
namespace Go.Proofs.YtfdkcbafpiojkaaGreatDoor
open Go.RowKit Go.Maps
set_option maxRecDepth 100000
/-- A list of transactions that is owned whole, its acts elsewhere than the list. -/
def TxnRow (base:Nat) (w:World) (v:Value) (ps:List TxnP):Prop:=
 w.ownsRow base 49 4 v ps.length (txnCells ps)∧(∀ p∈ps,w.ownsRow base 146 3 p.sl p.d.acts.length (actCells p.d.acts)∧(p.sl.ownBlock=none∨p.sl.ownBlock≠v.ownBlock))∧v≠.slice none 0 0

theorem TxnRow.at {base:Nat} {w:World} {v:Value} {ps:List TxnP} (h:TxnRow base w v ps):TxnsAt w v (ps.map TxnP.d):=by
 obtain ⟨a,c,rfl⟩:=own_shape h.1
 refine ⟨a,c,ps,by simp,rfl,Lies.own h.1,fun p hp=>?_⟩
 exact Lies.own (h.2.1 p hp).1

theorem TxnRow.src {base b:Nat} {w w' : World} {v:Value} {ps:List TxnP} (h:TxnRow base w v ps) (hb:b < base) (hg:w.grownBy w' (some b)):TxnRow base w' v ps:=
 ⟨h.1.kept hg (Or.inr (fun e=>own_not3 h.1 (Or.inl hb) e.symm)),fun p hp=>⟨(h.2.1 p hp).1.kept hg (Or.inr (fun e=>own_not3 (h.2.1 p hp).1 (Or.inl hb) e.symm)),(h.2.1 p hp).2⟩,h.2.2⟩

theorem TxnRow.below {base:Nat} {w w' : World} {v:Value} {ps:List TxnP} (h:TxnRow base w v ps) (hb:Below w.heap.size w w'):TxnRow base w' v ps:=
 ⟨own_below h.1 hb,fun p hp=>⟨own_below (h.2.1 p hp).1 hb,(h.2.1 p hp).2⟩,h.2.2⟩

theorem TxnRow.append {base:Nat} {w w' : World} {v v' : Value} {ps:List TxnP} (h:TxnRow base w v ps) (p:TxnP) (hp:w.ownsRow base 146 3 p.sl p.d.acts.length (actCells p.d.acts)) (hpn:p.sl.ownBlock=none∨p.sl.ownBlock≠v.ownBlock)
  (hown:w'.ownsRow base 49 4 v' (ps.length + 1) (txnCells ps ++ p.cells)) (hgrow:w.grownBy w' v.ownBlock) (hat:v'.ownBlock=v.ownBlock∨v'.ownBlock=some w.heap.size) (hnv:v' ≠ .slice none 0 0):TxnRow base w' v' (ps ++ [p]):=by
 have key:∀ r:TxnP,w.ownsRow base 146 3 r.sl r.d.acts.length (actCells r.d.acts)→(r.sl.ownBlock=none∨r.sl.ownBlock≠v.ownBlock)→w'.ownsRow base 146 3 r.sl r.d.acts.length (actCells r.d.acts)∧(r.sl.ownBlock=none∨r.sl.ownBlock≠v'.ownBlock):=by
  intro r hr hn
  refine ⟨hr.kept hgrow hn,?_⟩
  rcases hn with e | e
  ·exact Or.inl e
  ·right
   rcases hat with e2 | e2
   ·rw [e2];exact e
   ·rw [e2]
    intro e3
    have:=(hr.lt _ e3).2
    omega
 refine ⟨by simpa [txnCells] using hown,fun r hr=>?_,hnv⟩
 simp only [List.mem_append,List.mem_singleton] at hr
 rcases hr with hr | rfl
 ·exact key r (h.2.1 r hr).1 (h.2.1 r hr).2
 ·exact key r hp hpn

end Go.Proofs.YtfdkcbafpiojkaaGreatDoor
namespace Go.Proofs.YtfdkcbafpiojkaaGreatDoor
open Go.RowKit Go.Maps
open Go.BigFrame
set_option maxRecDepth 100000
def TxnP.qk (p:TxnP):TxnQ:=⟨p.d.id,p.d.session,p.d.seq,p.sl,p.d.acts⟩

theorem row_qk (ps:List TxnP):txnK.row (ps.map TxnP.qk)=txnCells ps:=by
 induction ps with
 | nil=>rfl
 | cons p r ih=>
  show txnK.cells p.qk ++ txnK.row (r.map TxnP.qk)=p.cells ++ txnCells r
  rw [ih]
  rfl

theorem TxnRow.atK {base:Nat} {w:World} {v:Value} {ps:List TxnP} (h:TxnRow base w v ps):txnK.At w v (ps.map TxnP.qk):=by
 refine Kind.at_of_row (base:=base) (e:=49) (by rw [List.length_map,row_qk];exact h.1) (fun q hq=>?_)
 obtain ⟨p,hp,rfl⟩:=List.mem_map.1 hq
 have h1:=(h.2.1 p hp).1
 exact ⟨_,_,rfl,Lies.own h1,fun _ _=>trivial⟩

theorem TxnRow.cap {base:Nat} {w:World} {v:Value} {ps:List TxnP} (h:TxnRow base w v ps):CapOk v:=by
 rcases h.1.2 with ⟨rfl,_⟩ | ⟨g,c,cur,rfl,_,_,h1,h2,_⟩
 ·exact ⟨Nat.le_refl _,by decide⟩
 ·exact ⟨h1,h2⟩

end Go.Proofs.YtfdkcbafpiojkaaGreatDoor
namespace Go.Proofs.YtfdkcbafpiojkaaGreatDoor
open Go.RowKit
open Go.BigFrame
set_option maxRecDepth 100000
theorem actF_of {k y v:Int} (hk:1≤k∧k≤4) (hy:1≤y∧y≤20) (hv:-1000≤v∧v≤1000) (h3:k=3→v=0):actF ⟨k,y,v⟩=0:=by
 have a:inW k 1 4=true:=by simp [inW];omega
 have b:inW y 1 20=true:=by simp [inW];omega
 have c:inW v (-1000) 1000=true:=by simp [inW];omega
 unfold actF
 dsimp only
 rw [a,b,c]
 by_cases e:k=3
 ·simp [e,h3 e]
 ·simp [e]

theorem actsF_of {zs:List ActD} (h:∀ z∈zs,actF z=0):actsF zs=0:=by
 induction zs with
 | nil=>rfl
 | cons x r ih=>
  simp only [actsF]
  rw [if_pos (h x (by simp))]
  exact ih (fun z hz=>h z (by simp [hz]))

theorem txnF_of {i s q:Int} {zs:List ActD} (hi:1≤i∧i≤200) (hs:1≤s∧s≤9) (hq:1≤q∧q≤99) (hl:1≤zs.length∧zs.length≤4) (h:∀ z∈zs,actF z=0):txnF i s q zs=0:=by
 have a:inW i 1 200=true:=by simp [inW];omega
 have b:inW s 1 9=true:=by simp [inW];omega
 have c:inW q 1 99=true:=by simp [inW];omega
 unfold txnF
 rw [a,b,c,if_neg (by simp),if_neg (by omega)]
 exact actsF_of h

set_option maxRecDepth 100000 in
set_option maxHeartbeats 1000000 in
theorem l2DrawActF_any (B b T:Nat) (w:World) (hS:Src B w b T) (hT:T≤1000000) :
  Calls Tryz.prog 145 #[.pointer (some ⟨b,0,none⟩)] w fun e w' => ∃ k y z:Int,e=.returned (.agg #[.int .i64 k,.int .i64 y,.int .i64 z])∧actF ⟨k,y,z⟩=0∧Src B w' b (T + 3)∧w.grownBy w' (some b):=by
 have hlt:=hS.lt
 have B0:=Blk.new w 146 #[.int .i64 0,.int .i64 0,.int .i64 0]
 have hg:w.grownBy (w.alloc (.cells #[.int .i64 0,.int .i64 0,.int .i64 0] 146)) (some b):=World.grownBy_alloc w _ _
 replace hS:Src B (w.alloc (.cells #[.int .i64 0,.int .i64 0,.int .i64 0] 146)) b T:=hS.below (by go_grown)
 go_enter Tryz.func145,Tryz.ntmps145
 go_wp2_with fail
 have hs1:w.heap.size + 1=(w.alloc (.cells #[.int .i64 0,.int .i64 0,.int .i64 0] 146)).heap.size:=by simp
 generalize w.alloc (.cells #[.int .i64 0,.int .i64 0,.int .i64 0] 146)=W1 at B0 hg hS hs1
 try simp only [hs1]
 replace hs1:w.heap.size < W1.heap.size:=by omega
 have hltp:=hS.lt
 have hbA:Below W1.heap.size W1 (W1.alloc (.cells #[.int .i64 1,.int .i64 1,.int .i64 2,.int .i64 2,.int .i64 3,.int .i64 4] 2)):=by go_grown
 replace B0:=B0.below hbA
 replace hg:=hg.trans (World.grownBy_alloc W1 (.cells #[.int .i64 1,.int .i64 1,.int .i64 2,.int .i64 2,.int .i64 3,.int .i64 4] 2) (some b))
 refine (pick_any B b T W1.heap.size _ [1,1,2,2,3,4] _ (hS.below (by go_grown)) (by omega) (World.ownsRow_lit W1 _ 6 (Nat.le_refl _) (by decide) rfl) (by simp) (by simp) (by simp [Value.ownBlock];omega)).mono ?_
 rintro e w3 ⟨k,rfl,hmem,hSn,hgn⟩
 replace B0:=B0.grown hgn (by simp;omega)
 replace hg:=hg.trans hgn
 replace hS:=hSn
 have hsz_w3:=hgn.size
 clear hgn hSn
 have hk4:1≤k∧k≤4:=by simp at hmem;omega
 clear hmem
 go_wp2_with fail
 refine (next_any B b (T + 1) 4 w3 hS (by omega) (by omega)).mono ?_
 rintro e w4 ⟨r,rfl,hr,hSn,hgn⟩
 have r1:=hr.1
 have r2:=hr.2.1 (by omega)
 replace B0:=B0.grown hgn (by simp;omega)
 replace hg:=hg.trans hgn
 replace hS:=hSn
 have hsz_w4:=hgn.size
 clear hgn hSn
 clear hr
 have hbA:Below w4.heap.size w4 (w4.alloc (.cells #[.int .i64 k,.int .i64 (1 + r),.int .i64 0] 146)):=by go_grown
 have B1:=Blk.new w4 146 #[.int .i64 k,.int .i64 (1 + r),.int .i64 0]
 have hlt4:=B0.lt
 have B0w:=B0
 have hSw:=hS
 have hgw:=hg
 replace B0:=B0.below hbA
 replace hS:=hS.below hbA
 have hsw:=hg.size
 replace hg:=grown_low hg (hbA.mono hsw)
 have q0:=B1.cell 0 _ rfl
 clear hbA
 by_cases hk:k=3
 ·have hk' : (k != 3)=false:=by simp [hk]
  have p0:=B0w.cell 0 _ rfl
  have p1:=B0w.cell 1 _ rfl
  have p2:=B0w.cell 2 _ rfl
  have f0:=B0w.frozen 0
  have f1:=B0w.frozen 1
  have f2:=B0w.frozen 2
  have HK:Hid (k=3):=hk
  clear B0 B1 B0w hS hg hk q0
  go_wp2
  refine bodyPost_ret (v:=.agg #[.int .i64 k,.int .i64 (1 + r),.int .i64 0]) (by simp [results,Tryz.results145,go_sem,p0,p1,p2,hlt4]) rfl ?_
  have hbE:∀ O,Below w.heap.size w4 ((((w4.setCell ⟨w.heap.size,0,none⟩ (.int .i64 k)).setCell ⟨w.heap.size,1,none⟩ (.int .i64 (1 + r))).setCell ⟨w.heap.size,2,none⟩ (.int .i64 0)).alloc O):=fun O=>
   ((((Below.refl _ _).setCell (p:=⟨w.heap.size,0,none⟩) (Nat.le_refl _) _).setCell (p:=⟨w.heap.size,1,none⟩) (Nat.le_refl _) _).setCell (p:=⟨w.heap.size,2,none⟩) (Nat.le_refl _) _).alloc (by simp [World.setCell];omega) O
  exact ⟨_,_,_,rfl,actF_of hk4 (by omega) (by omega) (fun _=>rfl),(hSw.low (hbE _) hlt.2).mono (by omega),grown_low hgw (hbE _)⟩
 ·have hk' : (k != 3)=true:=by simp [bne_iff_ne,hk]
  clear B0w hSw hgw
  go_wp2_with fail
  clear q0
  have hs5:w4.heap.size + 1=(w4.alloc (.cells #[.int .i64 k,.int .i64 (1 + r),.int .i64 0] 146)).heap.size:=by simp
  generalize w4.alloc (.cells #[.int .i64 k,.int .i64 (1 + r),.int .i64 0] 146)=W5 at *
  simp only [hs5]
  clear hs5
  have hltp:=hS.lt
  have hbA:Below W5.heap.size W5 (W5.alloc (.cells #[.int .i64 0,.int .i64 1,.int .i64 5,.int .i64 (-3),.int .i64 1000] 2)):=by go_grown
  replace B0:=B0.below hbA
  replace B1:=B1.below hbA
  replace hg:=hg.trans (World.grownBy_alloc W5 (.cells #[.int .i64 0,.int .i64 1,.int .i64 5,.int .i64 (-3),.int .i64 1000] 2) (some b))
  refine (pick_any B b (T + 1 + 1) W5.heap.size _ [0,1,5,-3,1000] _ (hS.below (by go_grown)) (by omega) (World.ownsRow_lit W5 _ 5 (Nat.le_refl _) (by decide) rfl) (by simp) (by simp) (by simp [Value.ownBlock];omega)).mono ?_
  rintro e w6 ⟨z,rfl,hmem,hSn,hgn⟩
  replace B0:=B0.grown hgn (by simp;omega)
  replace B1:=B1.grown hgn (by simp;omega)
  replace hg:=hg.trans hgn
  replace hS:=hSn
  have hsz_w6:=hgn.size
  clear hgn hSn
  have hz4:-1000≤z∧z≤1000:=by simp at hmem;omega
  clear hmem
  have hsb:w4.heap.size < w6.heap.size:=B1.lt
  have q0:=B1.cell 0 _ rfl
  have q1:=B1.cell 1 _ rfl
  have q2:=B1.cell 2 _ rfl
  have g2:=B1.frozen 2
  have p0:=B0.cell 0 _ rfl
  have p1:=B0.cell 1 _ rfl
  have p2:=B0.cell 2 _ rfl
  have f0:=B0.frozen 0
  have f1:=B0.frozen 1
  have f2:=B0.frozen 2
  have hne0:w.heap.size≠w4.heap.size:=by omega
  have HK:Hid (k≠3):=hk
  clear B0 B1 hk
  go_wp2
  refine bodyPost_ret (v:=.agg #[.int .i64 k,.int .i64 (1 + r),.int .i64 z]) (by simp [results,Tryz.results145,go_sem,p0,p1,p2]) rfl ?_
  have hbE:Below w.heap.size w6 ((((w6.setCell ⟨w4.heap.size,2,none⟩ (.int .i64 z)).setCell ⟨w.heap.size,0,none⟩ (.int .i64 k)).setCell ⟨w.heap.size,1,none⟩ (.int .i64 (1 + r))).setCell ⟨w.heap.size,2,none⟩ (.int .i64 z)):=by
   exact ((((Below.refl _ _).setCell (p:=⟨w4.heap.size,2,none⟩) (show w.heap.size≤w4.heap.size by omega) _).setCell (p:=⟨w.heap.size,0,none⟩) (Nat.le_refl _) _).setCell (p:=⟨w.heap.size,1,none⟩) (Nat.le_refl _) _).setCell (p:=⟨w.heap.size,2,none⟩) (Nat.le_refl _) _
  exact ⟨_,_,_,rfl,actF_of hk4 (by omega) hz4 (fun e=>absurd e HK.out),(hS.low hbE hlt.2).mono (by omega),grown_low hg hbE⟩

set_option maxRecDepth 100000 in
set_option maxHeartbeats 1000000 in
theorem l2DrawF_any (B b T:Nat) (w:World) (hS:Src B w b T) (hT:T≤900000) :
  Calls Tryz.prog 79 #[.pointer (some ⟨b,0,none⟩)] w fun e w' => ∃ (i s q:Int) (a:Option Addr) (c:Nat) (xs:List ActD),e=.returned (.agg #[.int .i64 i,.int .i64 s,.int .i64 q,.slice a xs.length c])∧txnF i s q xs=0∧xs.length≤3 ∧
   w'.ownsRow w.heap.size 146 3 (.slice a xs.length c) xs.length (actCells xs)∧Src B w' b (T + 13)∧w.grownBy w' (some b):=by
 have hlt:=hS.lt
 have B0:=Blk.new w 49 #[.int .i64 0,.int .i64 0,.int .i64 0,.slice none 0 0]
 have hg:w.grownBy (w.alloc (.cells #[.int .i64 0,.int .i64 0,.int .i64 0,.slice none 0 0] 49)) (some b):=World.grownBy_alloc w _ _
 replace hS:Src B (w.alloc (.cells #[.int .i64 0,.int .i64 0,.int .i64 0,.slice none 0 0] 49)) b T:=hS.below (by go_grown)
 go_enter Tryz.func79,Tryz.ntmps79
 go_wp2_with fail
 generalize w.alloc (.cells #[.int .i64 0,.int .i64 0,.int .i64 0,.slice none 0 0] 49)=W1 at B0 hg hS
 refine (next_any B b T 12 W1 hS (by omega) (by omega)).mono ?_
 rintro e w3 ⟨r,rfl,hr,hSn,hgn⟩
 have r1:=hr.1
 have r2:=hr.2.1 (by omega)
 replace B0:=B0.grown hgn (by simp;omega)
 replace hg:=hg.trans hgn
 replace hS:=hSn
 have hsz_w3:=hgn.size
 clear hgn hSn
 clear hr
 go_wp2_with fail
 refine (next_any B b (T + 1) 3 w3 hS (by omega) (by omega)).mono ?_
 rintro e w4 ⟨s,rfl,hr,hSn,hgn⟩
 have s1:=hr.1
 have s2:=hr.2.1 (by omega)
 replace B0:=B0.grown hgn (by simp;omega)
 replace hg:=hg.trans hgn
 replace hS:=hSn
 have hsz_w4:=hgn.size
 clear hgn hSn
 clear hr
 go_wp2_with fail
 refine (next_any B b (T + 1 + 1) 4 w4 hS (by omega) (by omega)).mono ?_
 rintro e w5 ⟨q,rfl,hr,hSn,hgn⟩
 have q1:=hr.1
 have q2:=hr.2.1 (by omega)
 replace B0:=B0.grown hgn (by simp;omega)
 replace hg:=hg.trans hgn
 replace hS:=hSn
 have hsz_w5:=hgn.size
 clear hgn hSn
 clear hr
 have hbA:Below w5.heap.size w5 (w5.alloc (.cells #[.int .i64 (1 + r),.int .i64 (1 + s),.int .i64 (1 + q),.slice none 0 0] 49)):=by go_grown
 have Bt:=Blk.new w5 49 #[.int .i64 (1 + r),.int .i64 (1 + s),.int .i64 (1 + q),.slice none 0 0]
 have hr5:w.heap.size < w5.heap.size:=B0.lt
 replace B0:=B0.below hbA
 replace hS:=hS.below hbA
 replace hg:=grown_low hg (hbA.mono hg.size)
 go_wp2_with fail
 have hs6:(w5.alloc (.cells #[.int .i64 (1 + r),.int .i64 (1 + s),.int .i64 (1 + q),.slice none 0 0] 49)).heap.size=w5.heap.size + 1:=by simp
 generalize w5.alloc (.cells #[.int .i64 (1 + r),.int .i64 (1 + s),.int .i64 (1 + q),.slice none 0 0] 49)=W6 at B0 Bt hS hg hs6
 clear hbA
 refine (next_any B b (T + 1 + 1 + 1) 3 W6 hS (by omega) (by omega)).mono ?_
 rintro e w7 ⟨k,rfl,hr,hSn,hgn⟩
 have k1:=hr.1
 have k2:=hr.2.1 (by omega)
 replace B0:=B0.grown hgn (by simp;omega)
 replace Bt:=Bt.grown hgn (by simp;omega)
 replace hg:=hg.trans hgn
 replace hS:=hSn
 have hsz_w7:=hgn.size
 clear hgn hSn
 clear hr
 obtain ⟨j0,rfl⟩:=Int.eq_ofNat_of_zero_le k1
 have hj0:j0≤2:=by omega
 have hs7:w5.heap.size + 1≤w7.heap.size:=by omega
 clear k1 k2 hs6 hsz_w7 hsz_w3 hsz_w4 hsz_w5
 have hr0:(0:Int)≤1 + r∧1 + r≤100:=by omega
 go_wp2
 go_loopw [4] (fun c wr=>∃ (j:Nat) (xs:List ActD) (a1:Option Addr) (c1:Nat),c=.int .i64 j∧Hid (∀ z∈xs,actF z=0)∧j + xs.length≤3∧1≤j + xs.length∧Blk wr w.heap.size 49 #[.int .i64 0,.int .i64 0,.int .i64 0,.slice none 0 0]∧Blk wr w5.heap.size 49 #[.int .i64 (1 + r),.int .i64 (1 + s),.int .i64 (1 + q),.slice a1 xs.length c1]∧wr.ownsRow (w5.heap.size + 1) 146 3 (.slice a1 xs.length c1) xs.length (actCells xs)∧Src B wr b (T + 4 + 3 * xs.length)∧w.grownBy wr (some b)∧w5.heap.size + 1≤wr.heap.size) (fun c _=>(intOf c).toNat)
 case atStart=>exact ⟨j0 + 1,[],none,0,by go_num,fun z hz=>by simp at hz,by simp;omega,by simp,B0,Bt,World.ownsRow_nil _ _ _ _,hS,hg,hs7⟩
 case round=>
  clear B0 Bt hS hg hs7
  obtain ⟨j,xs,a1,c1,rfl,HX,hj3,hj1,B0,Bt,ho,hS,hg,hsz⟩:=hrel
  by_cases hpos:0 < j
  ·have hnb:some b≠Value.ownBlock (.slice a1 xs.length c1):=own_not3 ho (Or.inl (by omega))
   have t3:wr.cell? ⟨w5.heap.size,3,none⟩=some (.slice a1 xs.length c1):=Bt.cell 3 _ rfl
   generalize hP:(fun u:World=>u.cell? ⟨w5.heap.size,3,none⟩=some (.slice a1 xs.length c1))=PP
   have hP0:PP wr:=by subst hP;exact t3
   have cc0:∀ u:KeepP PP,u.val.cell? ⟨w5.heap.size,3,none⟩=some (.slice a1 xs.length c1):=fun u=>by have:=u.isP;subst hP;exact this
   have hnn:Nonempty (KeepP PP):=⟨⟨wr,hP0⟩⟩
   go_wp2_with fail
   refine beginX (S:=fun w' => ∃ u:KeepP PP,w' = u.val) (R:=fun _ _=>False) 7 (by kernel_rfl) (fun _ _ _ _ h=>h.elim) ?_
   have hPd:PP wr.drew:=by subst hP;exact hP0
   refine segX [(0,3)] 5 (by kernel_rfl) (by kernel_rfl) (by kernel_rfl) (by kernel_rfl) (by kernel_rfl) ⟨⟨wr.drew,hPd⟩,rfl⟩ ?_
   simp only [pickR,List.toList_toArray,List.flatMap_cons,List.flatMap_nil,List.drop_succ_cons,List.drop_zero,List.take_succ_cons,List.take_zero,List.cons_append,List.nil_append,List.append_nil]
   repeat go_big_quiet_step (fail)
   refine wpQuiet_nil ?_
   clear cc0 hnn hP0 t3 hPd
   replace Bt:Blk wr.drew w5.heap.size 49 #[.int .i64 (1 + r),.int .i64 (1 + s),.int .i64 (1 + q),.slice a1 xs.length c1]:=Bt
   replace B0:Blk wr.drew w.heap.size 49 #[.int .i64 0,.int .i64 0,.int .i64 0,.slice none 0 0]:=B0
   replace ho:=ho.drew
   have hdr:Below wr.heap.size wr wr.drew:=(Below.refl _ _).drew
   replace hS:=hS.below hdr
   replace hg:=grown_low hg (hdr.mono hg.size)
   have keepP:∀ u:World,Blk u w5.heap.size 49 #[.int .i64 (1 + r),.int .i64 (1 + s),.int .i64 (1 + q),.slice a1 xs.length c1]→PP u:=by
    intro u hu
    subst hP
    exact hu.cell 3 _ rfl
   clear hP hdr
   have hszd:w5.heap.size + 1≤wr.drew.heap.size:=hsz
   generalize wr.drew=wd at Bt B0 ho hS hg hszd
   refine callX 3 (some 25) 145 #[.pointer (some ⟨b,0,none⟩)] 4 (by kernel_rfl) (by kernel_rfl) (by kernel_rfl) (by kernel_rfl) (by kernel_rfl) rfl ?_
   refine (l2DrawActF_any B b (T + 4 + 3 * xs.length) wd hS (by omega)).mono ?_
   rintro e w8 ⟨k,y,z,rfl,hF,hSn,hgn⟩
   have HX2:Hid (∀ u∈xs ++ [(⟨k,y,z⟩:ActD)],actF u=0):=by
    intro u hu
    rcases List.mem_append.1 hu with hu | hu
    ·exact HX.out u hu
    ·simp only [List.mem_singleton] at hu
     subst hu
     exact hF
   clear HX hF
   refine Or.inl ⟨_,rfl,?_⟩
   replace Bt:=Bt.grown hgn (by simp;omega)
   replace B0:=B0.grown hgn (by simp;omega)
   replace ho:=ho.kept hgn (Or.inr (fun e=>hnb e.symm))
   replace hg:=hg.trans hgn
   replace hS:=hSn
   have hsz8:w5.heap.size + 1≤w8.heap.size:=Nat.le_trans hszd hgn.size
   clear hgn hSn hsz hszd
   refine ⟨⟨⟨w8,keepP _ Bt⟩,rfl⟩,?_⟩
   simp only [Act.put,List.getElem_toArray,List.getElem_cons_succ,List.getElem_cons_zero,List.setIfInBounds_toArray,List.set_cons_zero,List.set_cons_succ]
   have hbA:Below w8.heap.size w8 (w8.alloc (.cells #[.int .i64 k,.int .i64 y,.int .i64 z] 146)):=by go_grown
   refine oneX 4 _ 3 (by kernel_rfl) rfl (by kernel_rfl) ?_
   go_wp2
   replace Bt:=Bt.below hbA
   replace B0:=B0.below hbA
   replace hS:=hS.below hbA
   replace hg:=grown_low hg (hbA.mono hg.size)
   refine ThenX.to ⟨Or.inr ⟨⟨_,keepP _ Bt⟩,rfl⟩,?_⟩
   have hsA:(w5.heap.size + 1)≤(w8.alloc (.cells #[.int .i64 k,.int .i64 y,.int .i64 z] 146)).heap.size:=by simp;omega
   have hsrc:∀ j u,[Value.int .i64 k,.int .i64 y,.int .i64 z][j]? = some u→(w8.alloc (.cells #[.int .i64 k,.int .i64 y,.int .i64 z] 146)).cell? ((⟨w8.heap.size,0,none⟩:Addr).add j)=some u:=by
    intro j u hj;match j,hj with | 0,hj=>simp at hj;subst hj;simp [Addr.add] | 1,hj=>simp at hj;subst hj;simp [Addr.add] | 2,hj=>simp at hj;subst hj;simp [Addr.add]
   replace ho:=own_below ho hbA
   generalize w8.alloc (.cells #[.int .i64 k,.int .i64 y,.int .i64 z] 146)=wb at hbA Bt B0 hS hg hsA hsrc ho
   obtain ⟨i0,hi,hz0,hz1,hz2⟩:=info_parts infoAct
   refine oneX 5 _ 2 (by kernel_rfl) rfl (by kernel_rfl) ?_
   refine wpList_append_own _ rfl _ _ 47 rfl (w5.heap.size + 1) 146 i0 (.agg #[.int .i64 0,.int .i64 0,.int .i64 0]) 3 24 Tryz.underlying47 hi hz0 hz1 hz2 rfl (by decide) _ xs.length (actCells xs) rfl ho ⟨w8.heap.size,0,none⟩ 1 1 [.int .i64 k,.int .i64 y,.int .i64 z] rfl rfl hsrc ?c2 ?c3 ?c4 ?c5 ?_
   case c2=>intro u hu;simp at hu;rcases hu with rfl | rfl | rfl <;> rfl
   case c3=>unfold maxLen;omega
   case c4=>omega
   case c5=>exact hsA
   intro v' wc hown hgrow _
   obtain ⟨a2,c2,rfl⟩:=own_shape hown
   have hgo:∀ j,(Value.slice a1 xs.length c1).ownBlock=some j→(w5.heap.size + 1)≤j:=fun j hj=>(ho.lt j hj).1
   have hBc:Below (w5.heap.size + 1) wb wc:=(Below.refl _ _).grown hgrow hsA hgo
   have hsc:(w5.heap.size + 1)≤wc.heap.size:=Nat.le_trans hsA hBc.size
   replace Bt:Blk wc w5.heap.size 49 #[.int .i64 (1 + r),.int .i64 (1 + s),.int .i64 (1 + q),.slice a1 xs.length c1]:=(hBc.block _ (by omega)).trans Bt
   replace B0:Blk wc w.heap.size 49 #[.int .i64 0,.int .i64 0,.int .i64 0,.slice none 0 0]:=(hBc.block _ (by omega)).trans B0
   replace hS:=hS.low hBc (by omega)
   replace hg:=grown_low hg (hBc.mono (by omega))
   clear hgrow hgo hBc ho hbA hsrc
   go_wp2
   refine ThenX.to ⟨Or.inr ⟨⟨_,keepP _ Bt⟩,rfl⟩,?_⟩
   simp only [Act.put,List.getElem_toArray,List.getElem_cons_succ,List.getElem_cons_zero,List.setIfInBounds_toArray,List.set_cons_zero,List.set_cons_succ]
   refine oneX 6 _ 1 (by kernel_rfl) rfl (by kernel_rfl) ?_
   go_wp2
   refine ThenX.to ⟨Or.inr ⟨⟨_,keepP _ Bt⟩,rfl⟩,?_⟩
   refine oneX 7 _ 0 (by kernel_rfl) rfl (by kernel_rfl) ?_
   have t3:=Bt.cell 3 _ rfl
   have t4:=Bt.frozen 3
   go_wp2
   clear t3 t4 keepP
   refine ThenX.to ⟨Or.inl (by kernel_rfl),?_⟩
   refine endX (by kernel_rfl) ?_
   have hbS:Below w5.heap.size wc (wc.setCell ⟨w5.heap.size,3,none⟩ (.slice a2 (xs.length + 1) c2)):=(Below.refl _ _).setCell (p:=⟨w5.heap.size,3,none⟩) (Nat.le_refl _) _
   replace Bt:Blk (wc.setCell ⟨w5.heap.size,3,none⟩ (.slice a2 (xs.length + 1) c2)) w5.heap.size 49 #[.int .i64 (1 + r),.int .i64 (1 + s),.int .i64 (1 + q),.slice a2 (xs.length + 1) c2]:=by
    have:=Go.Joins.block_setCell (i:=3) (v:=.slice a2 (xs.length + 1) c2) Bt
    unfold Blk
    simpa using this
   replace B0:=(hbS.block _ (by omega)).trans B0
   have ho:=ownsRow_setCell_below (a:=⟨w5.heap.size,3,none⟩) hown (by dsimp only;omega) (.slice a2 (xs.length + 1) c2)
   replace hS:=hS.low hbS (by omega)
   replace hg:=grown_low hg (hbS.mono (by omega))
   have hszN:(w5.heap.size + 1)≤(wc.setCell ⟨w5.heap.size,3,none⟩ (.slice a2 (xs.length + 1) c2)).heap.size:=by simpa [World.setCell] using hsc
   clear hsc hsA hown hi hz0 hz1 hz2 hbS
   generalize wc.setCell ⟨w5.heap.size,3,none⟩ (.slice a2 (xs.length + 1) c2)=w9 at Bt B0 ho hS hg hszN
   have ho2:w9.ownsRow (w5.heap.size + 1) 146 3 (.slice a2 (xs.length + 1) c2) (xs.length + 1) (actCells (xs ++ [⟨k,y,z⟩])):=by rw [actCells_snoc'];exact ho
   clear ho
   go_wp2
   go_roundw
   case rel=>
    refine ⟨j - 1,xs ++ [⟨k,y,z⟩],a2,c2,by go_num,HX2,by simp;omega,by simp;omega,B0,by simpa using Bt,by simpa using ho2,hS.mono (by simp;omega),hg,hszN⟩
   case measure=>simp [intOf];omega
  ·have p0:=B0.cell 0 _ rfl
   have p1:=B0.cell 1 _ rfl
   have p2:=B0.cell 2 _ rfl
   have p3:=B0.cell 3 _ rfl
   have f0:=B0.frozen 0
   have f1:=B0.frozen 1
   have f2:=B0.frozen 2
   have f3:=B0.frozen 3
   have q0:=Bt.cell 0 _ rfl
   have q1:=Bt.cell 1 _ rfl
   have q2:=Bt.cell 2 _ rfl
   have q3:=Bt.cell 3 _ rfl
   clear B0 Bt
   go_wp2
   refine bodyPost_ret (v:=.agg #[.int .i64 (1 + r),.int .i64 (1 + s),.int .i64 (1 + q),.slice a1 xs.length c1]) (by simp [results,Tryz.results79,go_sem,p0,p1,p2,p3]) rfl ?_
   have hbE:∀ v0 v1 v2 v3:Value,Below (w.heap.size) wr ((((wr.setCell ⟨w.heap.size,0,none⟩ v0).setCell ⟨w.heap.size,1,none⟩ v1).setCell ⟨w.heap.size,2,none⟩ v2).setCell ⟨w.heap.size,3,none⟩ v3):=fun v0 v1 v2 v3=>
    ((((Below.refl _ _).setCell (p:=⟨w.heap.size,0,none⟩) (Nat.le_refl _) _).setCell (p:=⟨w.heap.size,1,none⟩) (Nat.le_refl _) _).setCell (p:=⟨w.heap.size,2,none⟩) (Nat.le_refl _) _).setCell (p:=⟨w.heap.size,3,none⟩) (Nat.le_refl _) _
   refine ⟨_,_,_,a1,c1,xs,rfl,txnF_of (by omega) (by omega) (by omega) (by omega) HX.out,by omega,?_,(hS.low (hbE _ _ _ _) hlt.2).mono (by omega),grown_low hg (hbE _ _ _ _)⟩
   refine own_base (base:=w5.heap.size + 1) ?_ (by omega)
   repeat' (refine ownsRow_setCell_below ?_ (by dsimp only;omega) _)
   exact ho

end Go.Proofs.YtfdkcbafpiojkaaGreatDoor
namespace Go.Proofs.YtfdkcbafpiojkaaGreatDoor
open Go.RowKit
set_option maxRecDepth 100000
set_option maxHeartbeats 1000000 in
theorem lwBig_any (a:Option Addr) (n cap:Nat) (w:World) (hm:n≤9223372036854775807) :
  Calls Tryz.prog 30 #[.slice a n cap] w fun e w' => e=.returned (.bool (decide (1048576 < (n:Int))))∧w' = w:=by
 go_enter Tryz.func30,Tryz.ntmps30
 go_wp2
 go_ret
 exact ⟨rfl,rfl⟩

end Go.Proofs.YtfdkcbafpiojkaaGreatDoor
namespace Go.Proofs.YtfdkcbafpiojkaaGreatDoor
open Go.RowKit
open Go.BigFrame
set_option maxRecDepth 100000
theorem Kind.Own.cap' {P:Type} {K:Kind P} {w:World} {a:Option Addr} {n cap:Nat} {ps:List P} (h:K.Own w (.slice a n cap) ps):n≤cap∧cap≤maxLen:=by
 rcases h.1.2 with ⟨e,_⟩ | ⟨g,c,cur,e,_,_,h1,h2,_⟩
 ·simp only [Value.slice.injEq] at e
  obtain ⟨_,rfl,rfl⟩:=e
  exact ⟨Nat.le_refl _,by decide⟩
 ·simp only [Value.slice.injEq] at e
  obtain ⟨_,rfl,rfl⟩:=e
  exact ⟨h1,h2⟩

end Go.Proofs.YtfdkcbafpiojkaaGreatDoor

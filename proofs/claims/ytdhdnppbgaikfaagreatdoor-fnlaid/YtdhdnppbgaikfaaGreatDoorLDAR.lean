/- Texts joined, with what the laws reach alone. -/
import Derived.Test.YtdhdnppbgaikfaaGreatDoorLDAL
set_option linter.unusedVariables false
set_option linter.unusedSimpArgs false
namespace Go.Proofs.YtdhdnppbgaikfaaGreatDoor
open Go.RowKit
set_option maxRecDepth 100000
/-- A source of draws at block b: bytes that lie below block B, and a count of at most T. -/
def Src (B:Nat) (w:World) (b:Nat) (T:Nat):Prop:=
 ∃ (a:Option Addr) (zs:List Int) (cap t:Nat),B≤b∧b < w.heap.size∧w.cell? ⟨b,0,none⟩=some (.slice a zs.length cap)∧w.cell? ⟨b,1,none⟩=some (.int .i64 (t:Int))∧w.frozen? ⟨b,1,none⟩=false ∧
  t≤T∧zs.length≤1048576∧(∀ i,0≤zs.getD i 0∧zs.getD i 0≤255)∧(∀ i,i < zs.length→∃ b' off,a=some ⟨b',off,none⟩∧b' < B∧w.cell? ⟨b',off + i,none⟩=some (.int .u8 (zs.getD i 0)))

theorem Src.lt {B b T:Nat} {w:World} (h:Src B w b T):B≤b∧b < w.heap.size:=by
 obtain ⟨a,zs,cap,t,h1,h2,_⟩:=h
 exact ⟨h1,h2⟩

/-- A source lasts while its block, and all below B, read as before. -/
theorem Src.kept {B b T:Nat} {w w' : World} (h:Src B w b T) (hs:w.heap.size≤w'.heap.size) (hb:w'.heap[b]? = w.heap[b]?) (hB:∀ k,k < B→w'.heap[k]? = w.heap[k]?):Src B w' b T:=by
 obtain ⟨a,zs,cap,t,h1,h2,h3,h4,h5,h6,h7,h8,h9⟩:=h
 refine ⟨a,zs,cap,t,h1,Nat.lt_of_lt_of_le h2 hs,?_,?_,?_,h6,h7,h8,?_⟩
 ·rw [World.cell?_of_block (w:=w) (a:=⟨b,0,none⟩) hb];exact h3
 ·rw [World.cell?_of_block (w:=w) (a:=⟨b,1,none⟩) hb];exact h4
 ·rw [World.frozen?_of_block (w:=w) (a:=⟨b,1,none⟩) hb];exact h5
 ·intro i hi
  obtain ⟨b',off,e1,e2,e3⟩:=h9 i hi
  exact ⟨b',off,e1,e2,by rw [World.cell?_of_block (w:=w) (a:=⟨b',off + i,none⟩) (hB b' e2)];exact e3⟩

theorem Src.below {B b T:Nat} {w w' : World} (h:Src B w b T) (hb:Below w.heap.size w w'):Src B w' b T:=
 h.kept hb.size (hb.block b h.lt.2) (fun k hk=>hb.block k (by have:=h.lt;omega))

theorem Src.mono {B b T T' : Nat} {w:World} (h:Src B w b T) (hT:T≤T'):Src B w b T' := by
 obtain ⟨a,zs,cap,t,h1,h2,h3,h4,h5,h6,r⟩:=h
 exact ⟨a,zs,cap,t,h1,h2,h3,h4,h5,Nat.le_trans h6 hT,r⟩

/-- The count goes one up. -/
theorem Src.step {B b T:Nat} {w:World} {a:Option Addr} {zs:List Int} {cap t:Nat} (h1:B≤b) (h2:b < w.heap.size) (h3:w.cell? ⟨b,0,none⟩=some (.slice a zs.length cap)) (h4:w.cell? ⟨b,1,none⟩=some (.int .i64 (t:Int))) (h5:w.frozen? ⟨b,1,none⟩=false)
  (h6:t≤T) (h7:zs.length≤1048576) (h8:∀ i,0≤zs.getD i 0∧zs.getD i 0≤255) (h9:∀ i,i < zs.length→∃ b' off,a=some ⟨b',off,none⟩∧b' < B∧w.cell? ⟨b',off + i,none⟩=some (.int .u8 (zs.getD i 0))) :
  Src B (w.setCell ⟨b,1,none⟩ (.int .i64 ((t:Int) + 1))) b (T + 1)∧w.grownBy (w.setCell ⟨b,1,none⟩ (.int .i64 ((t:Int) + 1))) (some b):=by
 refine ⟨⟨a,zs,cap,t + 1,h1,by simpa using h2,?_,?_,?_,by omega,h7,h8,?_⟩,⟨rfl,rfl,rfl,by simp,fun k _ hk=>Below.heap_setCell w _ _ k (fun e=>hk (by simp [e]))⟩⟩
 ·go_cell
 ·rw [World.cell?_setCell_same _ _ _ h4];simp
 ·rw [World.frozen?_setCell];exact h5
 ·intro i hi
  obtain ⟨b',off,e1,e2,e3⟩:=h9 i hi
  refine ⟨b',off,e1,e2,?_⟩
  rw [World.cell?_of_block (w:=w) (a:=⟨b',off + i,none⟩) (Below.heap_setCell w _ _ b' (by simp;omega))]
  exact e3

/-- A draw out of n: from 0 to n - 1, and 0 where n is below 1. -/
def InR (n r:Int):Prop:=0≤r∧(1≤n→r < n)∧(n < 1→r=0)

theorem InR.mod (x n:Int) (h:1≤n):InR n (x % n):=⟨Int.emod_nonneg _ (by omega),fun _=>Int.emod_lt_of_pos _ (by omega),fun k=>by omega⟩

set_option maxHeartbeats 2000000 in
theorem next_any (B b T:Nat) (n:Int) (w:World) (hS:Src B w b T) (hT:T≤1099511627776) (hn:n≤1099511627776) :
  Calls Tryz.prog 22 #[.pointer (some ⟨b,0,none⟩),.int .i64 n] w fun e w' => ∃ r:Int,e=.returned (.int .i64 r)∧InR n r∧Src B w' b (T + 1)∧w.grownBy w' (some b):=by
 obtain ⟨a,zs,cap,t,h1,h2,h3,h4,h5,h6,h7,h8,h9⟩:=hS
 obtain ⟨r1,r2⟩:=Src.step h1 h2 h3 h4 h5 h6 h7 h8 h9
 have R1:Hid (Src B (w.setCell ⟨b,1,none⟩ (.int .i64 ((t:Int) + 1))) b (T + 1)):=r1
 have R2:Hid (w.grownBy (w.setCell ⟨b,1,none⟩ (.int .i64 ((t:Int) + 1))) (some b)):=r2
 clear r1 r2
 by_cases hn1:n < 1
 ·go_enter Tryz.func22,Tryz.ntmps22
  go_wp2
  go_ret
  exact ⟨0,rfl,⟨by omega,by omega,fun _=>rfl⟩,R1.out,R2.out⟩
 ·by_cases hz:zs.length=0
  ·have hz' : ((zs.length:Int) == 0)=true:=by simp [hz]
   clear h9 hz h7
   go_enter Tryz.func22,Tryz.ntmps22
   go_wp2
   go_ret
   exact ⟨_,rfl,InR.mod _ _ (by omega),R1.out,R2.out⟩
  ·have hz' : ((zs.length:Int) == 0)=false:=by rw [beq_eq_false_iff_ne];omega
   have hpos:0 < zs.length:=by omega
   have hm1:t % zs.length < zs.length:=Nat.mod_lt _ hpos
   have hm2:(t + 1) % zs.length < zs.length:=Nat.mod_lt _ hpos
   have c1:∃ b' off,a=some ⟨b',off,none⟩∧(w.setCell ⟨b,1,none⟩ (.int .i64 ((t:Int) + 1))).cell? ⟨b',off + t % zs.length,none⟩=some (.int .u8 (zs.getD (t % zs.length) 0))∧(w.setCell ⟨b,1,none⟩ (.int .i64 ((t:Int) + 1))).cell? ⟨b',off + (t + 1) % zs.length,none⟩=some (.int .u8 (zs.getD ((t + 1) % zs.length) 0)):=by
    obtain ⟨b',off,rfl,e2,e3⟩:=h9 _ hm1
    obtain ⟨b2,off2,e4,e5,e6⟩:=h9 _ hm2
    simp only [Option.some.injEq,Addr.mk.injEq,and_true] at e4
    obtain ⟨rfl,rfl⟩:=e4
    refine ⟨b',off,rfl,?_,?_⟩
    ·rw [World.cell?_of_block (w:=w) (a:=⟨b',_,none⟩) (Below.heap_setCell w _ _ b' (by simp;omega))];exact e3
    ·rw [World.cell?_of_block (w:=w) (a:=⟨b',_,none⟩) (Below.heap_setCell w _ _ b' (by simp;omega))];exact e6
   obtain ⟨b',off,rfl,c1,c2⟩:=c1
   have u1:=h8 (t % zs.length)
   have u2:=h8 ((t + 1) % zs.length)
   have hq:(t:Int) / (zs.length:Int)≤1099511627776:=Int.le_trans (Int.ediv_le_self _ (by omega)) (by omega)
   have hq0:0≤(t:Int) / (zs.length:Int):=Int.ediv_nonneg (by omega) (by omega)
   generalize zs.getD (t % zs.length) 0=x at c1 u1
   generalize zs.getD ((t + 1) % zs.length) 0=y at c2 u2
   have m0:0≤((t:Int) + 1) % (zs.length:Int):=Int.emod_nonneg _ (by omega)
   have m1:((t:Int) + 1) % (zs.length:Int) < (zs.length:Int):=Int.emod_lt_of_pos _ (by omega)
   clear h8 h9 hz
   by_cases h200:200 < n
   ·go_enter Tryz.func22,Tryz.ntmps22
    go_wp2
    go_quiet (fail)
    go_wp2
    go_quiet (fail)
    go_wp2
    go_ret
    exact ⟨_,rfl,InR.mod _ _ (by omega),R1.out.below (below_drewN (Below.refl _ _) _),R2.out.trans ⟨rfl,rfl,rfl,Nat.le_refl _,fun _ _ _=>rfl⟩⟩
   ·go_enter Tryz.func22,Tryz.ntmps22
    go_wp2
    go_quiet (fail)
    go_wp2
    go_ret
    exact ⟨_,rfl,InR.mod _ _ (by omega),R1.out.below (below_drewN (Below.refl _ _) _),R2.out.trans ⟨rfl,rfl,rfl,Nat.le_refl _,fun _ _ _=>rfl⟩⟩

set_option maxHeartbeats 1000000 in
theorem source_any (B:Nat) (a:Option Addr) (cap:Nat) (zs:List Int) (w:World) (hB:B≤w.heap.size) (hl:zs.length≤1048576) (hu:∀ i,0≤zs.getD i 0∧zs.getD i 0≤255)
  (h:∀ i,i < zs.length→∃ b' off,a=some ⟨b',off,none⟩∧b' < B∧w.cell? ⟨b',off + i,none⟩=some (.int .u8 (zs.getD i 0))) :
  Calls Tryz.prog 16 #[.slice a zs.length cap] w fun e w' => e=.returned (.pointer (some ⟨w.heap.size,0,none⟩))∧Src B w' w.heap.size 0∧Below w.heap.size w w' := by
 go_enter Tryz.func16,Tryz.ntmps16
 go_wp2
 go_ret
 refine ⟨rfl,⟨a,zs,cap,0,hB,by simp,by simp,by simp,by simp,Nat.le_refl _,hl,hu,?_⟩,by go_grown⟩
 intro i hi
 obtain ⟨b',off,e1,e2,e3⟩:=h i hi
 refine ⟨b',off,e1,e2,?_⟩
 rw [World.cell?_of_block (w:=w) (a:=⟨b',off + i,none⟩) (Below.heap_alloc w _ b' (by omega))]
 exact e3

set_option maxHeartbeats 1000000 in
theorem pick_any (B b T base:Nat) (v:Value) (xs:List Int) (w:World) (hS:Src B w b T) (hT:T≤1099511627776) (ho:w.ownsRow base 2 1 v xs.length (xs.map (Value.int .i64))) (hx:xs≠[]) (hlen:xs.length≤100) (hne:some b≠v.ownBlock) :
  Calls Tryz.prog 37 #[.pointer (some ⟨b,0,none⟩),v] w fun e w' => ∃ r:Int,e=.returned (.int .i64 r)∧r∈xs∧Src B w' b (T + 1)∧w.grownBy w' (some b):=by
 obtain ⟨a,k,rfl⟩:=own_shape ho
 have hpos:0 < xs.length:=List.length_pos_iff.2 hx
 have hn:=next_any B b T (xs.length:Int) w hS hT (by omega)
 go_enter Tryz.func37,Tryz.ntmps37
 go_wp2_with fail
 refine hn.mono ?_
 rintro e w' ⟨r,rfl,hr,hS',hg⟩
 obtain ⟨j,rfl⟩:=Int.eq_ofNat_of_zero_le hr.1
 have hj:j < xs.length:=by have:=hr.2.1 (by omega);omega
 have ho' := ho.kept hg (Or.inr (fun e=>hne e.symm))
 obtain ⟨b2,off2,rfl,hb2,hc2⟩:=Row.own ho' j hj
 have hmem:xs.getD j 0∈xs:=by simp [List.getD,hj]
 generalize xs.getD j 0=x at hc2 hmem
 clear hr ho ho' hn
 go_wp2
 go_ret
 exact ⟨x,rfl,hmem,hS',hg⟩

end Go.Proofs.YtdhdnppbgaikfaaGreatDoor
namespace Go.Proofs.YtdhdnppbgaikfaaGreatDoor
open Go.RowKit
set_option maxRecDepth 100000
/-- What is written into rows other than the source's, and into new memory, leaves the source. -/
theorem Src.grown {B b T:Nat} {w w' : World} {row:Option Nat} (h:Src B w b T) (hg:w.grownBy w' row) (hne:some b≠row) (hB:∀ k,row=some k→B≤k):Src B w' b T:=
 h.kept hg.size (hg.block b h.lt.2 hne) (fun k hk=>hg.block k (by have:=h.lt;omega) (fun e=>by have:=hB k e.symm;omega))

end Go.Proofs.YtdhdnppbgaikfaaGreatDoor
namespace Go.Proofs.YtdhdnppbgaikfaaGreatDoor
open Go.RowKit
open Go.BigFrame
set_option maxRecDepth 100000
theorem grown_low {w wr w' : World} {b:Nat} (hg:w.grownBy wr (some b)) (hb:Below w.heap.size wr w'):w.grownBy w' (some b):=
 ⟨hb.os.trans hg.os,hb.tape.trans hg.tape,hb.output.trans hg.output,by have:=hg.size;have:=hb.size;omega,fun k hk hne=>(hb.block k hk).trans (hg.block k hk hne)⟩

theorem Src.low {B b T N:Nat} {w w' : World} (h:Src B w b T) (hb:Below N w w') (hN:b < N):Src B w' b T:=
 h.kept hb.size (hb.block b hN) (fun k hk=>hb.block k (by have:=h.lt;omega))

theorem actCells_snoc' (xs:List ActD) (z:ActD):actCells (xs ++ [z])=actCells xs ++ [.int .i64 z.kind,.int .i64 z.key,.int .i64 z.val]:=by simp [actCells,ActD.cells]

set_option maxRecDepth 100000 in
set_option maxHeartbeats 400000 in
theorem l2DrawAct_any (B b T:Nat) (w:World) (hS:Src B w b T) (hT:T≤1000000) :
  Calls Tryz.prog 95 #[.pointer (some ⟨b,0,none⟩)] w fun e w' => ∃ k y z:Int,e=.returned (.agg #[.int .i64 k,.int .i64 y,.int .i64 z])∧Src B w' b (T + 3)∧w.grownBy w' (some b):=by
 have hlt:=hS.lt
 have B0:=Blk.new w 131 #[.int .i64 0,.int .i64 0,.int .i64 0]
 have hg:w.grownBy (w.alloc (.cells #[.int .i64 0,.int .i64 0,.int .i64 0] 131)) (some b):=World.grownBy_alloc w _ _
 replace hS:Src B (w.alloc (.cells #[.int .i64 0,.int .i64 0,.int .i64 0] 131)) b T:=hS.below (by go_grown)
 go_enter Tryz.func95,Tryz.ntmps95
 go_wp2_with fail
 have hs1:w.heap.size + 1=(w.alloc (.cells #[.int .i64 0,.int .i64 0,.int .i64 0] 131)).heap.size:=by simp
 generalize w.alloc (.cells #[.int .i64 0,.int .i64 0,.int .i64 0] 131)=W1 at B0 hg hS hs1
 try simp only [hs1]
 replace hs1:w.heap.size < W1.heap.size:=by omega
 have hltp:=hS.lt
 have hbA:Below W1.heap.size W1 (W1.alloc (.cells #[.int .i64 1,.int .i64 1,.int .i64 2,.int .i64 2,.int .i64 3,.int .i64 4] 2)):=by go_grown
 replace B0:=B0.below hbA
 replace hg:=hg.trans (World.grownBy_alloc W1 (.cells #[.int .i64 1,.int .i64 1,.int .i64 2,.int .i64 2,.int .i64 3,.int .i64 4] 2) (some b))
 refine (pick_any B b T W1.heap.size _ [1,1,2,2,3,4] _ (hS.below (by go_grown)) (by omega) (World.ownsRow_lit W1 _ 6 (Nat.le_refl _) (by decide) rfl) (by simp) (by simp) (by simp [Value.ownBlock];omega)).mono ?_
 rintro e w3 ⟨k,rfl,hmem,hSn,hgn⟩
 replace B0:=B0.grown hgn (by simp;omega)
 replace hg:=hg.trans hgn
 replace hS:=hSn
 have hsz_w3:=hgn.size
 clear hgn hSn
 clear hmem
 go_wp2_with fail
 refine (next_any B b (T + 1) 4 w3 hS (by omega) (by omega)).mono ?_
 rintro e w4 ⟨r,rfl,hr,hSn,hgn⟩
 have r1:=hr.1
 have r2:=hr.2.1 (by omega)
 replace B0:=B0.grown hgn (by simp;omega)
 replace hg:=hg.trans hgn
 replace hS:=hSn
 have hsz_w4:=hgn.size
 clear hgn hSn
 clear hr
 have hbA:Below w4.heap.size w4 (w4.alloc (.cells #[.int .i64 k,.int .i64 (1 + r),.int .i64 0] 131)):=by go_grown
 have B1:=Blk.new w4 131 #[.int .i64 k,.int .i64 (1 + r),.int .i64 0]
 have hlt4:=B0.lt
 have B0w:=B0
 have hSw:=hS
 have hgw:=hg
 replace B0:=B0.below hbA
 replace hS:=hS.below hbA
 have hsw:=hg.size
 replace hg:=grown_low hg (hbA.mono hsw)
 have q0:=B1.cell 0 _ rfl
 clear hbA
 by_cases hk:k=3
 ·have hk' : (k != 3)=false:=by simp [hk]
  obtain ⟨p0,p1,p2⟩:=B0w.cel3
  obtain ⟨f0,f1,f2⟩:=B0w.frz3
  clear B0 B1 B0w hS hg hk q0
  go_wp2
  refine bodyPost_ret (v:=.agg #[.int .i64 k,.int .i64 (1 + r),.int .i64 0]) (by simp [results,Tryz.results95,go_sem,p0,p1,p2,hlt4]) rfl ?_
  have hbE:∀ O,Below w.heap.size w4 ((((w4.setCell ⟨w.heap.size,0,none⟩ (.int .i64 k)).setCell ⟨w.heap.size,1,none⟩ (.int .i64 (1 + r))).setCell ⟨w.heap.size,2,none⟩ (.int .i64 0)).alloc O):=fun O=>
   ((((Below.refl _ _).setCell (p:=⟨w.heap.size,0,none⟩) (Nat.le_refl _) _).setCell (p:=⟨w.heap.size,1,none⟩) (Nat.le_refl _) _).setCell (p:=⟨w.heap.size,2,none⟩) (Nat.le_refl _) _).alloc (by simp [World.setCell];omega) O
  exact ⟨_,_,_,rfl,(hSw.low (hbE _) hlt.2).mono (by omega),grown_low hgw (hbE _)⟩
 ·have hk' : (k != 3)=true:=by simp [bne_iff_ne,hk]
  clear B0w hSw hgw
  go_wp2_with fail
  clear q0
  have hs5:w4.heap.size + 1=(w4.alloc (.cells #[.int .i64 k,.int .i64 (1 + r),.int .i64 0] 131)).heap.size:=by simp
  generalize w4.alloc (.cells #[.int .i64 k,.int .i64 (1 + r),.int .i64 0] 131)=W5 at *
  simp only [hs5]
  clear hs5
  have hltp:=hS.lt
  have hbA:Below W5.heap.size W5 (W5.alloc (.cells #[.int .i64 0,.int .i64 1,.int .i64 5,.int .i64 (-3),.int .i64 1000] 2)):=by go_grown
  replace B0:=B0.below hbA
  replace B1:=B1.below hbA
  replace hg:=hg.trans (World.grownBy_alloc W5 (.cells #[.int .i64 0,.int .i64 1,.int .i64 5,.int .i64 (-3),.int .i64 1000] 2) (some b))
  refine (pick_any B b (T + 1 + 1) W5.heap.size _ [0,1,5,-3,1000] _ (hS.below (by go_grown)) (by omega) (World.ownsRow_lit W5 _ 5 (Nat.le_refl _) (by decide) rfl) (by simp) (by simp) (by simp [Value.ownBlock];omega)).mono ?_
  rintro e w6 ⟨z,rfl,hmem,hSn,hgn⟩
  replace B0:=B0.grown hgn (by simp;omega)
  replace B1:=B1.grown hgn (by simp;omega)
  replace hg:=hg.trans hgn
  replace hS:=hSn
  have hsz_w6:=hgn.size
  clear hgn hSn
  clear hmem
  have hsb:w4.heap.size < w6.heap.size:=B1.lt
  obtain ⟨q0,q1,q2⟩:=B1.cel3
  have g2:=B1.frozen 2
  obtain ⟨p0,p1,p2⟩:=B0.cel3
  obtain ⟨f0,f1,f2⟩:=B0.frz3
  have hne0:w.heap.size≠w4.heap.size:=by omega
  clear B0 B1 hk
  go_wp2
  refine bodyPost_ret (v:=.agg #[.int .i64 k,.int .i64 (1 + r),.int .i64 z]) (by simp [results,Tryz.results95,go_sem,p0,p1,p2]) rfl ?_
  have hbE:Below w.heap.size w6 ((((w6.setCell ⟨w4.heap.size,2,none⟩ (.int .i64 z)).setCell ⟨w.heap.size,0,none⟩ (.int .i64 k)).setCell ⟨w.heap.size,1,none⟩ (.int .i64 (1 + r))).setCell ⟨w.heap.size,2,none⟩ (.int .i64 z)):=by
   exact ((((Below.refl _ _).setCell (p:=⟨w4.heap.size,2,none⟩) (show w.heap.size≤w4.heap.size by omega) _).setCell (p:=⟨w.heap.size,0,none⟩) (Nat.le_refl _) _).setCell (p:=⟨w.heap.size,1,none⟩) (Nat.le_refl _) _).setCell (p:=⟨w.heap.size,2,none⟩) (Nat.le_refl _) _
  exact ⟨_,_,_,rfl,(hS.low hbE hlt.2).mono (by omega),grown_low hg hbE⟩

end Go.Proofs.YtdhdnppbgaikfaaGreatDoor
namespace Go.Proofs.YtdhdnppbgaikfaaGreatDoor
open Go.RowKit
open Go.BigFrame
set_option maxRecDepth 100000
set_option maxRecDepth 100000 in
set_option maxHeartbeats 1000000 in
theorem l2Draw_any (B b T:Nat) (w:World) (hS:Src B w b T) (hT:T≤900000) :
  Calls Tryz.prog 71 #[.pointer (some ⟨b,0,none⟩)] w fun e w' => ∃ (i s q:Int) (a:Option Addr) (c:Nat) (xs:List ActD),e=.returned (.agg #[.int .i64 i,.int .i64 s,.int .i64 q,.slice a xs.length c])∧1≤xs.length∧xs.length≤3 ∧
   w'.ownsRow w.heap.size 131 3 (.slice a xs.length c) xs.length (actCells xs)∧Src B w' b (T + 13)∧w.grownBy w' (some b):=by
 have hlt:=hS.lt
 have B0:=Blk.new w 91 #[.int .i64 0,.int .i64 0,.int .i64 0,.slice none 0 0]
 have hg:w.grownBy (w.alloc (.cells #[.int .i64 0,.int .i64 0,.int .i64 0,.slice none 0 0] 91)) (some b):=World.grownBy_alloc w _ _
 replace hS:Src B (w.alloc (.cells #[.int .i64 0,.int .i64 0,.int .i64 0,.slice none 0 0] 91)) b T:=hS.below (by go_grown)
 go_enter Tryz.func71,Tryz.ntmps71
 go_wp2_with fail
 generalize w.alloc (.cells #[.int .i64 0,.int .i64 0,.int .i64 0,.slice none 0 0] 91)=W1 at B0 hg hS
 refine (next_any B b T 12 W1 hS (by omega) (by omega)).mono ?_
 rintro e w3 ⟨r,rfl,hr,hSn,hgn⟩
 have r1:=hr.1
 have r2:=hr.2.1 (by omega)
 replace B0:=B0.grown hgn (by simp;omega)
 replace hg:=hg.trans hgn
 replace hS:=hSn
 have hsz_w3:=hgn.size
 clear hgn hSn
 clear hr
 go_wp2_with fail
 refine (next_any B b (T + 1) 3 w3 hS (by omega) (by omega)).mono ?_
 rintro e w4 ⟨s,rfl,hr,hSn,hgn⟩
 have s1:=hr.1
 have s2:=hr.2.1 (by omega)
 replace B0:=B0.grown hgn (by simp;omega)
 replace hg:=hg.trans hgn
 replace hS:=hSn
 have hsz_w4:=hgn.size
 clear hgn hSn
 clear hr
 go_wp2_with fail
 refine (next_any B b (T + 1 + 1) 4 w4 hS (by omega) (by omega)).mono ?_
 rintro e w5 ⟨q,rfl,hr,hSn,hgn⟩
 have q1:=hr.1
 have q2:=hr.2.1 (by omega)
 replace B0:=B0.grown hgn (by simp;omega)
 replace hg:=hg.trans hgn
 replace hS:=hSn
 have hsz_w5:=hgn.size
 clear hgn hSn
 clear hr
 have hbA:Below w5.heap.size w5 (w5.alloc (.cells #[.int .i64 (1 + r),.int .i64 (1 + s),.int .i64 (1 + q),.slice none 0 0] 91)):=by go_grown
 have Bt:=Blk.new w5 91 #[.int .i64 (1 + r),.int .i64 (1 + s),.int .i64 (1 + q),.slice none 0 0]
 have hr5:w.heap.size < w5.heap.size:=B0.lt
 replace B0:=B0.below hbA
 replace hS:=hS.below hbA
 replace hg:=grown_low hg (hbA.mono hg.size)
 go_wp2_with fail
 have hs6:(w5.alloc (.cells #[.int .i64 (1 + r),.int .i64 (1 + s),.int .i64 (1 + q),.slice none 0 0] 91)).heap.size=w5.heap.size + 1:=by simp
 generalize w5.alloc (.cells #[.int .i64 (1 + r),.int .i64 (1 + s),.int .i64 (1 + q),.slice none 0 0] 91)=W6 at B0 Bt hS hg hs6
 clear hbA
 refine (next_any B b (T + 1 + 1 + 1) 3 W6 hS (by omega) (by omega)).mono ?_
 rintro e w7 ⟨k,rfl,hr,hSn,hgn⟩
 have k1:=hr.1
 have k2:=hr.2.1 (by omega)
 replace B0:=B0.grown hgn (by simp;omega)
 replace Bt:=Bt.grown hgn (by simp;omega)
 replace hg:=hg.trans hgn
 replace hS:=hSn
 have hsz_w7:=hgn.size
 clear hgn hSn
 clear hr
 obtain ⟨j0,rfl⟩:=Int.eq_ofNat_of_zero_le k1
 have hj0:j0≤2:=by omega
 have hs7:w5.heap.size + 1≤w7.heap.size:=by omega
 clear k1 k2 hs6 hsz_w7 hsz_w3 hsz_w4 hsz_w5
 have hr0:(0:Int)≤1 + r∧1 + r≤100:=by omega
 go_wp2
 go_loopw [4] (fun c wr=>∃ (j:Nat) (xs:List ActD) (a1:Option Addr) (c1:Nat),c=.int .i64 j∧j + xs.length≤3∧1≤j + xs.length∧Blk wr w.heap.size 91 #[.int .i64 0,.int .i64 0,.int .i64 0,.slice none 0 0]∧Blk wr w5.heap.size 91 #[.int .i64 (1 + r),.int .i64 (1 + s),.int .i64 (1 + q),.slice a1 xs.length c1]∧wr.ownsRow (w5.heap.size + 1) 131 3 (.slice a1 xs.length c1) xs.length (actCells xs)∧Src B wr b (T + 4 + 3 * xs.length)∧w.grownBy wr (some b)∧w5.heap.size + 1≤wr.heap.size) (fun c _=>(intOf c).toNat)
 case atStart=>exact ⟨j0 + 1,[],none,0,by go_num,by simp;omega,by simp,B0,Bt,World.ownsRow_nil _ _ _ _,hS,hg,hs7⟩
 case round=>
  clear B0 Bt hS hg hs7
  obtain ⟨j,xs,a1,c1,rfl,hj3,hj1,B0,Bt,ho,hS,hg,hsz⟩:=hrel
  by_cases hpos:0 < j
  ·have hnb:some b≠Value.ownBlock (.slice a1 xs.length c1):=own_not3 ho (Or.inl (by omega))
   have t3:wr.cell? ⟨w5.heap.size,3,none⟩=some (.slice a1 xs.length c1):=Bt.cell 3 _ rfl
   generalize hP:(fun u:World=>u.cell? ⟨w5.heap.size,3,none⟩=some (.slice a1 xs.length c1))=PP
   have hP0:PP wr:=by subst hP;exact t3
   have cc0:∀ u:KeepP PP,u.val.cell? ⟨w5.heap.size,3,none⟩=some (.slice a1 xs.length c1):=fun u=>by have:=u.isP;subst hP;exact this
   have hnn:Nonempty (KeepP PP):=⟨⟨wr,hP0⟩⟩
   go_wp2_with fail
   refine beginX (S:=fun w' => ∃ u:KeepP PP,w' = u.val) (R:=fun _ _=>False) 7 (by kernel_rfl) (fun _ _ _ _ h=>h.elim) ?_
   have hPd:PP wr.drew:=by subst hP;exact hP0
   refine sgX [(0,3)] 5 (by kernel_rfl) ⟨⟨wr.drew,hPd⟩,rfl⟩ ?_
   simp only [pkE]
   repeat go_big_quiet_step (fail)
   refine wpQuiet_nil ?_
   clear cc0 hnn hP0 t3 hPd
   replace Bt:Blk wr.drew w5.heap.size 91 #[.int .i64 (1 + r),.int .i64 (1 + s),.int .i64 (1 + q),.slice a1 xs.length c1]:=Bt
   replace B0:Blk wr.drew w.heap.size 91 #[.int .i64 0,.int .i64 0,.int .i64 0,.slice none 0 0]:=B0
   replace ho:=ho.drew
   have hdr:Below wr.heap.size wr wr.drew:=(Below.refl _ _).drew
   replace hS:=hS.below hdr
   replace hg:=grown_low hg (hdr.mono hg.size)
   have keepP:∀ u:World,Blk u w5.heap.size 91 #[.int .i64 (1 + r),.int .i64 (1 + s),.int .i64 (1 + q),.slice a1 xs.length c1]→PP u:=by
    intro u hu
    subst hP
    exact hu.cell 3 _ rfl
   clear hP hdr
   have hszd:w5.heap.size + 1≤wr.drew.heap.size:=hsz
   generalize wr.drew=wd at Bt B0 ho hS hg hszd
   refine clX 3 (some 25) 95 #[.pointer (some ⟨b,0,none⟩)] 4 (by kernel_rfl) rfl ?_
   refine (l2DrawAct_any B b (T + 4 + 3 * xs.length) wd hS (by omega)).mono ?_
   rintro e w8 ⟨k,y,z,rfl,hSn,hgn⟩
   refine Or.inl ⟨_,rfl,?_⟩
   replace Bt:=Bt.grown hgn (by simp;omega)
   replace B0:=B0.grown hgn (by simp;omega)
   replace ho:=ho.kept hgn (Or.inr (fun e=>hnb e.symm))
   replace hg:=hg.trans hgn
   replace hS:=hSn
   have hsz8:w5.heap.size + 1≤w8.heap.size:=Nat.le_trans hszd hgn.size
   clear hgn hSn hsz hszd
   refine ⟨⟨⟨w8,keepP _ Bt⟩,rfl⟩,?_⟩
   simp only [Act.put,pgE,pjE]
   have hbA:Below w8.heap.size w8 (w8.alloc (.cells #[.int .i64 k,.int .i64 y,.int .i64 z] 131)):=by go_grown
   refine onX 4 3 rfl (by kernel_rfl) ?_
   go_wp2
   replace Bt:=Bt.below hbA
   replace B0:=B0.below hbA
   replace hS:=hS.below hbA
   replace hg:=grown_low hg (hbA.mono hg.size)
   refine ThenX.to ⟨Or.inr ⟨⟨_,keepP _ Bt⟩,rfl⟩,?_⟩
   have hsA:(w5.heap.size + 1)≤(w8.alloc (.cells #[.int .i64 k,.int .i64 y,.int .i64 z] 131)).heap.size:=by simp;omega
   have hsrc:∀ j u,[Value.int .i64 k,.int .i64 y,.int .i64 z][j]? = some u→(w8.alloc (.cells #[.int .i64 k,.int .i64 y,.int .i64 z] 131)).cell? ((⟨w8.heap.size,0,none⟩:Addr).add j)=some u:=by
    intro j u hj;match j,hj with | 0,hj=>simp at hj;subst hj;simp [Addr.add] | 1,hj=>simp at hj;subst hj;simp [Addr.add] | 2,hj=>simp at hj;subst hj;simp [Addr.add]
   replace ho:=own_below ho hbA
   generalize w8.alloc (.cells #[.int .i64 k,.int .i64 y,.int .i64 z] 131)=wb at hbA Bt B0 hS hg hsA hsrc ho
   obtain ⟨i0,hi,hz0,hz1,hz2⟩:=info_parts infoAct
   refine onX 5 2 rfl (by kernel_rfl) ?_
   refine wpList_append_own _ rfl _ _ 89 rfl (w5.heap.size + 1) 131 i0 (.agg #[.int .i64 0,.int .i64 0,.int .i64 0]) 3 24 Tryz.underlying89 hi hz0 hz1 hz2 rfl (by decide) _ xs.length (actCells xs) rfl ho ⟨w8.heap.size,0,none⟩ 1 1 [.int .i64 k,.int .i64 y,.int .i64 z] rfl rfl hsrc ?c2 ?c3 ?c4 ?c5 ?_
   case c2=>intro u hu;simp at hu;rcases hu with rfl | rfl | rfl <;> rfl
   case c3=>unfold maxLen;omega
   case c4=>omega
   case c5=>exact hsA
   intro v' wc hown hgrow _
   obtain ⟨a2,c2,rfl⟩:=own_shape hown
   have hgo:∀ j,(Value.slice a1 xs.length c1).ownBlock=some j→(w5.heap.size + 1)≤j:=fun j hj=>(ho.lt j hj).1
   have hBc:Below (w5.heap.size + 1) wb wc:=(Below.refl _ _).grown hgrow hsA hgo
   have hsc:(w5.heap.size + 1)≤wc.heap.size:=Nat.le_trans hsA hBc.size
   replace Bt:Blk wc w5.heap.size 91 #[.int .i64 (1 + r),.int .i64 (1 + s),.int .i64 (1 + q),.slice a1 xs.length c1]:=(hBc.block _ (by omega)).trans Bt
   replace B0:Blk wc w.heap.size 91 #[.int .i64 0,.int .i64 0,.int .i64 0,.slice none 0 0]:=(hBc.block _ (by omega)).trans B0
   replace hS:=hS.low hBc (by omega)
   replace hg:=grown_low hg (hBc.mono (by omega))
   clear hgrow hgo hBc ho hbA hsrc
   go_wp2
   refine ThenX.to ⟨Or.inr ⟨⟨_,keepP _ Bt⟩,rfl⟩,?_⟩
   simp only [Act.put,pgE,pjE]
   refine onX 6 1 rfl (by kernel_rfl) ?_
   go_wp2
   refine ThenX.to ⟨Or.inr ⟨⟨_,keepP _ Bt⟩,rfl⟩,?_⟩
   refine onX 7 0 rfl (by kernel_rfl) ?_
   have t3:=Bt.cell 3 _ rfl
   have t4:=Bt.frozen 3
   go_wp2
   clear t3 t4 keepP
   refine ThenX.to ⟨Or.inl (by kernel_rfl),?_⟩
   refine endX (by kernel_rfl) ?_
   have hbS:Below w5.heap.size wc (wc.setCell ⟨w5.heap.size,3,none⟩ (.slice a2 (xs.length + 1) c2)):=(Below.refl _ _).setCell (p:=⟨w5.heap.size,3,none⟩) (Nat.le_refl _) _
   replace Bt:Blk (wc.setCell ⟨w5.heap.size,3,none⟩ (.slice a2 (xs.length + 1) c2)) w5.heap.size 91 #[.int .i64 (1 + r),.int .i64 (1 + s),.int .i64 (1 + q),.slice a2 (xs.length + 1) c2]:=by
    have:=Go.Joins.block_setCell (i:=3) (v:=.slice a2 (xs.length + 1) c2) Bt
    unfold Blk
    simpa using this
   replace B0:=(hbS.block _ (by omega)).trans B0
   have ho:=ownsRow_setCell_below (a:=⟨w5.heap.size,3,none⟩) hown (by dsimp only;omega) (.slice a2 (xs.length + 1) c2)
   replace hS:=hS.low hbS (by omega)
   replace hg:=grown_low hg (hbS.mono (by omega))
   have hszN:(w5.heap.size + 1)≤(wc.setCell ⟨w5.heap.size,3,none⟩ (.slice a2 (xs.length + 1) c2)).heap.size:=by simpa [World.setCell] using hsc
   clear hsc hsA hown hi hz0 hz1 hz2 hbS
   generalize wc.setCell ⟨w5.heap.size,3,none⟩ (.slice a2 (xs.length + 1) c2)=w9 at Bt B0 ho hS hg hszN
   have ho2:w9.ownsRow (w5.heap.size + 1) 131 3 (.slice a2 (xs.length + 1) c2) (xs.length + 1) (actCells (xs ++ [⟨k,y,z⟩])):=by rw [actCells_snoc'];exact ho
   clear ho
   go_wp2
   go_roundw
   case rel=>
    refine ⟨j - 1,xs ++ [⟨k,y,z⟩],a2,c2,by go_num,by simp;omega,by simp;omega,B0,by simpa using Bt,by simpa using ho2,hS.mono (by simp;omega),hg,hszN⟩
   case measure=>simp [intOf];omega
  ·have p0:=B0.cell 0 _ rfl
   have p1:=B0.cell 1 _ rfl
   have p2:=B0.cell 2 _ rfl
   have p3:=B0.cell 3 _ rfl
   obtain ⟨f0,f1,f2,f3⟩:=B0.frz4
   obtain ⟨q0,q1,q2,q3⟩:=Bt.cel4
   clear B0 Bt
   go_wp2
   refine bodyPost_ret (v:=.agg #[.int .i64 (1 + r),.int .i64 (1 + s),.int .i64 (1 + q),.slice a1 xs.length c1]) (by simp [results,Tryz.results71,go_sem,p0,p1,p2,p3]) rfl ?_
   have hbE:∀ v0 v1 v2 v3:Value,Below (w.heap.size) wr ((((wr.setCell ⟨w.heap.size,0,none⟩ v0).setCell ⟨w.heap.size,1,none⟩ v1).setCell ⟨w.heap.size,2,none⟩ v2).setCell ⟨w.heap.size,3,none⟩ v3):=fun v0 v1 v2 v3=>
    ((((Below.refl _ _).setCell (p:=⟨w.heap.size,0,none⟩) (Nat.le_refl _) _).setCell (p:=⟨w.heap.size,1,none⟩) (Nat.le_refl _) _).setCell (p:=⟨w.heap.size,2,none⟩) (Nat.le_refl _) _).setCell (p:=⟨w.heap.size,3,none⟩) (Nat.le_refl _) _
   refine ⟨_,_,_,a1,c1,xs,rfl,by omega,by omega,?_,(hS.low (hbE _ _ _ _) hlt.2).mono (by omega),grown_low hg (hbE _ _ _ _)⟩
   refine own_base (base:=w5.heap.size + 1) ?_ (by omega)
   repeat' (refine ownsRow_setCell_below ?_ (by dsimp only;omega) _)
   exact ho

end Go.Proofs.YtdhdnppbgaikfaaGreatDoor
namespace Go.Proofs.YtdhdnppbgaikfaaGreatDoor
open Go.RowKit Go.Maps
open Go.BigFrame
set_option maxRecDepth 100000
theorem made0:(madeCells #[Value.int .i64 0,.int .i64 0,.int .i64 0] (0 * 3)).toList=actCells (List.replicate 0 actNo):=by kernel_rfl

theorem made5:(madeCells #[Value.int .i64 0,.int .i64 0,.int .i64 0] (5 * 3)).toList=actCells (List.replicate 5 actNo):=by kernel_rfl

theorem act_set1 (xs:List ActD) (h:1≤xs.length) (v:Int):∃ ys:List ActD,ys.length=xs.length∧(actCells xs).set 1 (.int .i64 v)=actCells ys:=by
 cases xs with
 | nil=>simp at h
 | cons x r=>exact ⟨⟨x.kind,v,x.val⟩ :: r,by simp,by simp [actCells,ActD.cells]⟩

set_option maxRecDepth 100000 in
set_option maxHeartbeats 1500000 in
theorem l2Bent_any (B b T:Nat) (w:World) (hS:Src B w b T) (hT:T≤900000) :
  Calls Tryz.prog 38 #[.pointer (some ⟨b,0,none⟩)] w fun e w' => ∃ (i s q:Int) (a:Option Addr) (c:Nat) (xs:List ActD),e=.returned (.agg #[.int .i64 i,.int .i64 s,.int .i64 q,.slice a xs.length c])∧xs.length≤5 ∧
   w'.ownsRow w.heap.size 131 3 (.slice a xs.length c) xs.length (actCells xs)∧Src B w' b (T + 15)∧w.grownBy w' (some b):=by
 have hlt:=hS.lt
 have B0:=Blk.new w 91 #[.int .i64 0,.int .i64 0,.int .i64 0,.slice none 0 0]
 have hg:w.grownBy (w.alloc (.cells #[.int .i64 0,.int .i64 0,.int .i64 0,.slice none 0 0] 91)) (some b):=World.grownBy_alloc w _ _
 replace hS:Src B (w.alloc (.cells #[.int .i64 0,.int .i64 0,.int .i64 0,.slice none 0 0] 91)) b T:=hS.below (by go_grown)
 go_enter Tryz.func38,Tryz.ntmps38
 go_wp2_with fail
 have hs1:(w.alloc (.cells #[.int .i64 0,.int .i64 0,.int .i64 0,.slice none 0 0] 91)).heap.size=w.heap.size + 1:=by simp
 generalize w.alloc (.cells #[.int .i64 0,.int .i64 0,.int .i64 0,.slice none 0 0] 91)=W1 at B0 hg hS hs1
 refine (l2Draw_any B b T W1 hS hT).mono ?_
 rintro e w2 ⟨i,s,q,a,c,xs,rfl,hx1,hx3,ho,hSn,hgn⟩
 replace B0:=B0.grown hgn (by simp;omega)
 replace hg:=hg.trans hgn
 replace hS:=hSn
 rw [hs1] at ho
 have hnb:some b≠Value.ownBlock (.slice a xs.length c):=own_not3 ho (Or.inl (by omega))
 have hr2:w.heap.size < w2.heap.size:=B0.lt
 have hbk:∀ k,Value.ownBlock (.slice a xs.length c)=some k→k < w2.heap.size:=fun k hk=>(ho.lt k hk).2
 clear hgn hSn hs1
 have hbA:Below w2.heap.size w2 (w2.alloc (.cells #[.int .i64 i,.int .i64 s,.int .i64 q,.slice a xs.length c] 91)):=by go_grown
 have Bt:=Blk.new w2 91 #[.int .i64 i,.int .i64 s,.int .i64 q,.slice a xs.length c]
 replace B0:=B0.below hbA
 replace hS:=hS.below hbA
 replace ho:=own_below ho hbA
 replace hg:=grown_low hg (hbA.mono hg.size)
 have hs3:w2.heap.size + 1≤(w2.alloc (.cells #[.int .i64 i,.int .i64 s,.int .i64 q,.slice a xs.length c] 91)).heap.size:=by simp
 go_wp2_with fail
 generalize w2.alloc (.cells #[.int .i64 i,.int .i64 s,.int .i64 q,.slice a xs.length c] 91)=W3 at B0 Bt hS hg ho hs3
 clear hbA
 refine (next_any B b (T + 13) 12 W3 hS (by omega) (by omega)).mono ?_
 rintro e w4 ⟨r,rfl,hr,hSn,hgn⟩
 have r1:=hr.1
 have r2:=hr.2.1 (by omega)
 replace B0:=B0.grown hgn (by simp;omega)
 replace Bt:=Bt.grown hgn (by simp;omega)
 replace ho:=ho.kept hgn (Or.inr (fun e=>hnb e.symm))
 replace hg:=hg.trans hgn
 replace hS:=hSn
 have hsz_w4:=hgn.size
 clear hgn hSn
 clear hr
 replace hs3:w2.heap.size + 1≤w4.heap.size:=Nat.le_trans hs3 hsz_w4
 clear hsz_w4
 have hbt:w.heap.size≠w2.heap.size:=by omega
 have htb:w2.heap.size≠w.heap.size:=by omega
 by_cases hr0:r=0
 ·subst hr0
  go_wp2_with fail
  have hltp:=hS.lt
  have hbA:Below w4.heap.size w4 (w4.alloc (.cells #[.int .i64 0,.int .i64 200,.int .i64 201] 2)):=by go_grown
  replace B0:=B0.below hbA
  replace Bt:=Bt.below hbA
  replace ho:=ho.alloc (.cells #[.int .i64 0,.int .i64 200,.int .i64 201] 2)
  replace hg:=hg.trans (World.grownBy_alloc w4 (.cells #[.int .i64 0,.int .i64 200,.int .i64 201] 2) (some b))
  refine (pick_any B b (T + 13 + 1) w4.heap.size _ [0,200,201] _ (hS.below (by go_grown)) (by omega) (World.ownsRow_lit w4 _ 3 (Nat.le_refl _) (by decide) rfl) (by simp) (by simp) (by simp [Value.ownBlock];omega)).mono ?_
  rintro e w5 ⟨v,rfl,hmem,hSn,hgn⟩
  replace B0:=B0.grown hgn (by simp;omega)
  replace Bt:=Bt.grown hgn (by simp;omega)
  replace ho:=ho.kept hgn (Or.inr (fun e=>hnb e.symm))
  replace hg:=hg.trans hgn
  replace hS:=hSn
  have hsz_w5:=hgn.size
  clear hgn hSn
  clear hmem
  have p0:=B0.cell 0 _ rfl
  have f0:=B0.frozen 0
  have q0:=Bt.cell 0 _ rfl
  have p1:=B0.cell 1 _ rfl
  have f1:=B0.frozen 1
  have q1:=Bt.cell 1 _ rfl
  have p2:=B0.cell 2 _ rfl
  have f2:=B0.frozen 2
  have q2:=Bt.cell 2 _ rfl
  have p3:=B0.cell 3 _ rfl
  have f3:=B0.frozen 3
  have q3:=Bt.cell 3 _ rfl
  have g0:=Bt.frozen 0
  clear B0 Bt
  go_wp2
  refine bodyPost_ret (v:=.agg #[.int .i64 v,.int .i64 s,.int .i64 q,.slice a xs.length c]) (by simp [results,Tryz.results38,go_sem,p0,p1,p2,p3,htb,hbt]) rfl ?_
  have hbE:Below w.heap.size w5 (((((w5.setCell ⟨w2.heap.size,0,none⟩ (.int .i64 v)).setCell ⟨w.heap.size,0,none⟩ (.int .i64 v)).setCell ⟨w.heap.size,1,none⟩ (.int .i64 s)).setCell ⟨w.heap.size,2,none⟩ (.int .i64 q)).setCell ⟨w.heap.size,3,none⟩ (.slice a xs.length c)):=((((((Below.refl _ _).setCell (p:=⟨w2.heap.size,0,none⟩) (show w.heap.size≤w2.heap.size by omega) _).setCell (p:=⟨w.heap.size,0,none⟩) (Nat.le_refl _) _).setCell (p:=⟨w.heap.size,1,none⟩) (Nat.le_refl _) _).setCell (p:=⟨w.heap.size,2,none⟩) (Nat.le_refl _) _).setCell (p:=⟨w.heap.size,3,none⟩) (Nat.le_refl _) _)
  refine ⟨ v, s, q,a,c,xs,rfl,by omega,?_,(hS.low hbE hlt.2).mono (by omega),grown_low hg hbE⟩
  refine own_base (base:=w.heap.size + 1) ?_ (by omega)
  repeat' (first | refine ownsRow_setCell_below ?_ (show _ < w.heap.size + 1 from Nat.lt_succ_self _) _ | refine own_set_other ?_ (by intro k hk;have:=hbk k hk;omega))
  exact ho
 have hr0' : (r == 0)=false:=by simpa using hr0
 by_cases hr1:r=1
 ·subst hr1
  have t3:w4.cell? ⟨w2.heap.size,3,none⟩=some (.slice a xs.length c):=Bt.cell 3 _ rfl
  generalize hP:(fun u:World=>u.cell? ⟨w2.heap.size,3,none⟩=some (.slice a xs.length c))=PP
  have hP0:PP w4:=by subst hP;exact t3
  have cc0:∀ u:KeepP PP,u.val.cell? ⟨w2.heap.size,3,none⟩=some (.slice a xs.length c):=fun u=>by have:=u.isP;subst hP;exact this
  have hnn:Nonempty (KeepP PP):=⟨⟨w4,hP0⟩⟩
  go_wp2_with fail
  refine beginX (S:=fun w' => ∃ u:KeepP PP,w' = u.val) (R:=fun _ _=>False) 9 (by kernel_rfl) (fun _ _ _ _ h=>h.elim) ?_
  have hPd:PP w4.drew:=by subst hP;exact hP0
  refine sgX [(0,3)] 7 (by kernel_rfl) ⟨⟨w4.drew,hPd⟩,rfl⟩ ?_
  simp only [pkE]
  repeat go_big_quiet_step (fail)
  refine wpQuiet_nil ?_
  clear cc0 hnn hP0 t3 hPd
  replace Bt:Blk w4.drew w2.heap.size 91 #[.int .i64 i,.int .i64 s,.int .i64 q,.slice a xs.length c]:=Bt
  replace B0:Blk w4.drew w.heap.size 91 #[.int .i64 0,.int .i64 0,.int .i64 0,.slice none 0 0]:=B0
  replace ho:=ho.drew
  have hdr:Below w4.heap.size w4 w4.drew:=(Below.refl _ _).drew
  replace hS:=hS.below hdr
  replace hg:=grown_low hg (hdr.mono hg.size)
  have keepP:∀ u:World,Blk u w2.heap.size 91 #[.int .i64 i,.int .i64 s,.int .i64 q,.slice a xs.length c]→PP u:=by
   intro u hu
   subst hP
   exact hu.cell 3 _ rfl
  clear hP hdr
  replace hs3:w2.heap.size + 1≤w4.drew.heap.size:=hs3
  generalize w4.drew=wd at Bt B0 ho hS hg hs3
  have hltp:=hS.lt
  have hbL:Below wd.heap.size wd (wd.alloc (.cells #[.int .i64 0,.int .i64 3,.int .i64 5] 2)):=by go_grown
  refine onX 3 6 rfl (by kernel_rfl) ?_
  go_wp2
  replace Bt:=Bt.below hbL
  replace B0:=B0.below hbL
  replace ho:=own_below ho hbL
  replace hg:=grown_low hg (hbL.mono hg.size)
  refine ThenX.to ⟨Or.inr ⟨⟨_,keepP _ Bt⟩,rfl⟩,?_⟩
  refine clX 4 (some 20) 37 #[.pointer (some ⟨b,0,none⟩),.slice (some ⟨wd.heap.size,0,none⟩) 3 3] 5 (by kernel_rfl) rfl ?_
  refine (pick_any B b (T + 13 + 1) wd.heap.size _ [0,3,5] _ (hS.below hbL) (by omega) (World.ownsRow_lit wd _ 3 (Nat.le_refl _) (by decide) rfl) (by simp) (by simp) (by simp [Value.ownBlock];omega)).mono ?_
  rintro e w5 ⟨k,rfl,hmem,hSn,hgn⟩
  refine Or.inl ⟨_,rfl,?_⟩
  replace Bt:=Bt.grown hgn (by simp;omega)
  replace B0:=B0.grown hgn (by simp;omega)
  replace ho:=ho.kept hgn (Or.inr (fun e=>hnb e.symm))
  replace hg:=hg.trans hgn
  replace hS:=hSn
  have hs5:w2.heap.size + 1≤w5.heap.size:=by have:=hgn.size;have:=hbL.size;omega
  clear hgn hSn hmem hs3 hbL
  refine ⟨⟨⟨w5,keepP _ Bt⟩,rfl⟩,?_⟩
  simp only [Act.put,pgE,pjE]
  refine onX 5 4 rfl (by kernel_rfl) ?_
  go_wp2
  refine ThenX.to ⟨Or.inr ⟨⟨_,keepP _ Bt⟩,rfl⟩,?_⟩
  have hbA:Below w5.heap.size w5 (w5.alloc (.cells #[.int .i64 k,.int .i64 1,.int .i64 1] 131)):=by go_grown
  refine onX 6 3 rfl (by kernel_rfl) ?_
  go_wp2
  replace Bt:=Bt.below hbA
  replace B0:=B0.below hbA
  replace hS:=hS.below hbA
  replace hg:=grown_low hg (hbA.mono hg.size)
  refine ThenX.to ⟨Or.inr ⟨⟨_,keepP _ Bt⟩,rfl⟩,?_⟩
  have hsA:w5.heap.size + 1≤(w5.alloc (.cells #[.int .i64 k,.int .i64 1,.int .i64 1] 131)).heap.size:=by simp
  have hsrc:∀ j u,[Value.int .i64 k,.int .i64 1,.int .i64 1][j]? = some u→(w5.alloc (.cells #[.int .i64 k,.int .i64 1,.int .i64 1] 131)).cell? ((⟨w5.heap.size,0,none⟩:Addr).add j)=some u:=by
   intro j u hj;match j,hj with | 0,hj=>simp at hj;subst hj;simp [Addr.add] | 1,hj=>simp at hj;subst hj;simp [Addr.add] | 2,hj=>simp at hj;subst hj;simp [Addr.add]
  replace ho:=own_below ho hbA
  generalize w5.alloc (.cells #[.int .i64 k,.int .i64 1,.int .i64 1] 131)=wb at hbA Bt B0 hS hg hsA hsrc ho
  obtain ⟨i0,hi,hz0,hz1,hz2⟩:=info_parts infoAct
  refine onX 7 2 rfl (by kernel_rfl) ?_
  refine wpList_append_own_at _ rfl _ _ 89 rfl (w.heap.size + 1) 131 i0 (.agg #[.int .i64 0,.int .i64 0,.int .i64 0]) 3 24 Tryz.underlying89 hi hz0 hz1 hz2 rfl (by decide) _ xs.length (actCells xs) rfl ho ⟨w5.heap.size,0,none⟩ 1 1 [.int .i64 k,.int .i64 1,.int .i64 1] rfl rfl hsrc ?c2 ?c3 ?c4 ?c5 ?_
  case c2=>intro u hu;simp at hu;rcases hu with rfl | rfl | rfl <;> rfl
  case c3=>unfold maxLen;omega
  case c4=>omega
  case c5=>omega
  intro v' wc hown hgrow _ hat
  obtain ⟨a2,c2,rfl⟩:=own_shape hown
  have hgo:∀ j,(Value.slice a xs.length c).ownBlock=some j→w.heap.size + 1≤j:=fun j hj=>(ho.lt j hj).1
  have hBc:Below (w.heap.size + 1) wb wc:=(Below.refl _ _).grown hgrow (by omega) hgo
  replace Bt:Blk wc w2.heap.size 91 #[.int .i64 i,.int .i64 s,.int .i64 q,.slice a xs.length c]:=Bt.grown hgrow (fun e=>by have:=hbk _ e.symm;omega)
  replace B0:Blk wc w.heap.size 91 #[.int .i64 0,.int .i64 0,.int .i64 0,.slice none 0 0]:=(hBc.block _ (by omega)).trans B0
  replace hS:=hS.low hBc (by omega)
  replace hg:=grown_low hg (hBc.mono (by omega))
  have hbk2:∀ j,(Value.slice a2 (xs.length + 1) c2).ownBlock=some j→j≠w2.heap.size:=by
   intro j hj
   rcases hat with e | e
   ·rw [e] at hj;have:=hbk j hj;omega
   ·rw [e] at hj;simp at hj;omega
  clear hgrow hgo hBc ho hbA hsrc hat hbk hnb
  go_wp2
  refine ThenX.to ⟨Or.inr ⟨⟨_,keepP _ Bt⟩,rfl⟩,?_⟩
  simp only [Act.put,pgE,pjE]
  refine onX 8 1 rfl (by kernel_rfl) ?_
  go_wp2
  refine ThenX.to ⟨Or.inr ⟨⟨_,keepP _ Bt⟩,rfl⟩,?_⟩
  refine onX 9 0 rfl (by kernel_rfl) ?_
  have t3:=Bt.cell 3 _ rfl
  have t4:=Bt.frozen 3
  go_wp2
  clear t3 t4 keepP
  refine ThenX.to ⟨Or.inl (by kernel_rfl),?_⟩
  refine endX (by kernel_rfl) ?_
  have hbS:Below w2.heap.size wc (wc.setCell ⟨w2.heap.size,3,none⟩ (.slice a2 (xs.length + 1) c2)):=(Below.refl _ _).setCell (p:=⟨w2.heap.size,3,none⟩) (Nat.le_refl _) _
  replace Bt:Blk (wc.setCell ⟨w2.heap.size,3,none⟩ (.slice a2 (xs.length + 1) c2)) w2.heap.size 91 #[.int .i64 i,.int .i64 s,.int .i64 q,.slice a2 (xs.length + 1) c2]:=by
   have:=Go.Joins.block_setCell (i:=3) (v:=.slice a2 (xs.length + 1) c2) Bt
   unfold Blk
   simpa using this
  replace B0:=(hbS.block _ (by omega)).trans B0
  replace B0:Blk (wc.setCell ⟨w2.heap.size,3,none⟩ (.slice a2 (xs.length + 1) c2)) w.heap.size 91 #[.int .i64 0,.int .i64 0,.int .i64 0,.slice none 0 0]:=B0
  have ho:=own_set_other (g:=w2.heap.size) (j:=3) (u:=.slice a2 (xs.length + 1) c2) hown hbk2
  replace hS:=hS.low hbS (by omega)
  replace hg:=grown_low hg (hbS.mono (by omega))
  clear hown hi hz0 hz1 hz2 hbS
  generalize wc.setCell ⟨w2.heap.size,3,none⟩ (.slice a2 (xs.length + 1) c2)=w9 at Bt B0 ho hS hg
  replace ho:w9.ownsRow (w.heap.size + 1) 131 3 (.slice a2 (xs.length + 1) c2) (xs.length + 1) (actCells (xs ++ [⟨k,1,1⟩])):=by rw [actCells_snoc'];exact ho
  have p0:=B0.cell 0 _ rfl
  have f0:=B0.frozen 0
  have q0:=Bt.cell 0 _ rfl
  have p1:=B0.cell 1 _ rfl
  have f1:=B0.frozen 1
  have q1:=Bt.cell 1 _ rfl
  have p2:=B0.cell 2 _ rfl
  have f2:=B0.frozen 2
  have q2:=Bt.cell 2 _ rfl
  have p3:=B0.cell 3 _ rfl
  have f3:=B0.frozen 3
  have q3:=Bt.cell 3 _ rfl
  clear B0 Bt
  go_wp2
  refine bodyPost_ret (v:=.agg #[.int .i64 i,.int .i64 s,.int .i64 q,.slice a2 (xs.length + 1) c2]) (by simp [results,Tryz.results38,go_sem,p0,p1,p2,p3,htb,hbt]) rfl ?_
  have hbE:Below w.heap.size w9 ((((w9.setCell ⟨w.heap.size,0,none⟩ (.int .i64 i)).setCell ⟨w.heap.size,1,none⟩ (.int .i64 s)).setCell ⟨w.heap.size,2,none⟩ (.int .i64 q)).setCell ⟨w.heap.size,3,none⟩ (.slice a2 (xs.length + 1) c2)):=(((((Below.refl _ _).setCell (p:=⟨w.heap.size,0,none⟩) (Nat.le_refl _) _).setCell (p:=⟨w.heap.size,1,none⟩) (Nat.le_refl _) _).setCell (p:=⟨w.heap.size,2,none⟩) (Nat.le_refl _) _).setCell (p:=⟨w.heap.size,3,none⟩) (Nat.le_refl _) _)
  refine ⟨ i, s, q,a2,c2,xs ++ [⟨k,1,1⟩],by simp,by simp;omega,?_,(hS.low hbE hlt.2).mono (by omega),grown_low hg hbE⟩
  rw [List.length_append,List.length_singleton]
  refine own_base (base:=w.heap.size + 1) ?_ (by omega)
  repeat' (first | refine ownsRow_setCell_below ?_ (show _ < w.heap.size + 1 from Nat.lt_succ_self _) _ | refine own_set_other ?_ (by intro k hk;have:=hbk k hk;omega))
  exact ho
 have hr1' : (r == 1)=false:=by simpa using hr1
 by_cases hr2' : r=2
 ·subst hr2'
  obtain ⟨ga,rfl⟩:∃ ga,a=some ⟨ga,0,none⟩:=by
   rcases ho.2 with ⟨he,h0⟩ | ⟨g,cap,cur,he,_⟩
   ·omega
   ·simp only [Value.slice.injEq] at he
    exact ⟨g,he.1⟩
  have hga:=hbk ga rfl
  have hga2:w.heap.size + 1≤ga:=(ho.lt ga rfl).1
  have t3:w4.cell? ⟨w2.heap.size,3,none⟩=some (.slice (some ⟨ga,0,none⟩) xs.length c):=Bt.cell 3 _ rfl
  generalize hP:(fun u:World=>u.cell? ⟨w2.heap.size,3,none⟩=some (.slice (some ⟨ga,0,none⟩) xs.length c))=PP
  have hP0:PP w4:=by subst hP;exact t3
  have cc0:∀ u:KeepP PP,u.val.cell? ⟨w2.heap.size,3,none⟩=some (.slice (some ⟨ga,0,none⟩) xs.length c):=fun u=>by have:=u.isP;subst hP;exact this
  have hnn:Nonempty (KeepP PP):=⟨⟨w4,hP0⟩⟩
  go_wp2_with fail
  refine beginX (S:=fun w' => ∃ u:KeepP PP,w' = u.val) (R:=fun _ _=>False) 7 (by kernel_rfl) (fun _ _ _ _ h=>h.elim) ?_
  have hPd:PP w4.drew:=by subst hP;exact hP0
  refine sgX [(0,3)] 5 (by kernel_rfl) ⟨⟨w4.drew,hPd⟩,rfl⟩ ?_
  simp only [pkE]
  repeat go_big_quiet_step (fail)
  refine wpQuiet_nil ?_
  clear cc0 hnn hP0 t3 hPd
  replace Bt:Blk w4.drew w2.heap.size 91 #[.int .i64 i,.int .i64 s,.int .i64 q,.slice (some ⟨ga,0,none⟩) xs.length c]:=Bt
  replace B0:Blk w4.drew w.heap.size 91 #[.int .i64 0,.int .i64 0,.int .i64 0,.slice none 0 0]:=B0
  replace ho:=ho.drew
  have hdr:Below w4.heap.size w4 w4.drew:=(Below.refl _ _).drew
  replace hS:=hS.below hdr
  replace hg:=grown_low hg (hdr.mono hg.size)
  have keepP:∀ u:World,Blk u w2.heap.size 91 #[.int .i64 i,.int .i64 s,.int .i64 q,.slice (some ⟨ga,0,none⟩) xs.length c]→PP u:=by
   intro u hu
   subst hP
   exact hu.cell 3 _ rfl
  clear hP hdr
  replace hs3:w2.heap.size + 1≤w4.drew.heap.size:=hs3
  generalize w4.drew=wd at Bt B0 ho hS hg hs3
  have hltp:=hS.lt
  have hbL:Below wd.heap.size wd (wd.alloc (.cells #[.int .i64 0,.int .i64 20,.int .i64 21] 2)):=by go_grown
  refine onX 3 4 rfl (by kernel_rfl) ?_
  go_wp2
  replace Bt:=Bt.below hbL
  replace B0:=B0.below hbL
  replace ho:=own_below ho hbL
  replace hg:=grown_low hg (hbL.mono hg.size)
  refine ThenX.to ⟨Or.inr ⟨⟨_,keepP _ Bt⟩,rfl⟩,?_⟩
  refine clX 4 (some 31) 37 #[.pointer (some ⟨b,0,none⟩),.slice (some ⟨wd.heap.size,0,none⟩) 3 3] 3 (by kernel_rfl) rfl ?_
  refine (pick_any B b (T + 13 + 1) wd.heap.size _ [0,20,21] _ (hS.below hbL) (by omega) (World.ownsRow_lit wd _ 3 (Nat.le_refl _) (by decide) rfl) (by simp) (by simp) (by simp [Value.ownBlock];omega)).mono ?_
  rintro e w5 ⟨k,rfl,hmem,hSn,hgn⟩
  refine Or.inl ⟨_,rfl,?_⟩
  replace Bt:=Bt.grown hgn (by simp;omega)
  replace B0:=B0.grown hgn (by simp;omega)
  replace ho:=ho.kept hgn (Or.inr (fun e=>hnb e.symm))
  replace hg:=hg.trans hgn
  replace hS:=hSn
  have hs5:w2.heap.size + 1≤w5.heap.size:=by have:=hgn.size;have:=hbL.size;omega
  clear hgn hSn hmem hs3 hbL
  refine ⟨⟨⟨w5,keepP _ Bt⟩,rfl⟩,?_⟩
  simp only [Act.put,pgE,pjE]
  have hx1i:(0:Int) < (xs.length:Int):=by omega
  refine onX 5 2 rfl (by kernel_rfl) ?_
  go_wp2
  refine ThenX.to ⟨Or.inr ⟨⟨_,keepP _ Bt⟩,rfl⟩,?_⟩
  refine onX 6 1 rfl (by kernel_rfl) ?_
  go_wp2
  refine ThenX.to ⟨Or.inr ⟨⟨_,keepP _ Bt⟩,rfl⟩,?_⟩
  refine onX 7 0 rfl (by kernel_rfl) ?_
  have t4:w5.frozen? ⟨ga,1,none⟩=false:=ho.frozenAt 1
  obtain ⟨u1,t3⟩:∃ u,w5.cell? ⟨ga,1,none⟩=some u:=by
   rw [ho.cellAt 1 (by omega)]
   exact ⟨_,List.getElem?_eq_getElem (by rw [actCells_length];omega)⟩
  go_wp2
  clear t3 t4 keepP
  refine ThenX.to ⟨Or.inl (by kernel_rfl),?_⟩
  refine endX (by kernel_rfl) ?_
  have hst:=(ho.stored 1 (.int .i64 k)).1
  obtain ⟨ys,hyl,hys⟩:=act_set1 xs hx1 k
  rw [hys] at hst
  have hbS:Below (w.heap.size + 1) w5 (w5.setCell ⟨ga,1,none⟩ (.int .i64 k)):=(Below.refl _ _).setCell (p:=⟨ga,1,none⟩) hga2 _
  replace Bt:Blk (w5.setCell ⟨ga,1,none⟩ (.int .i64 k)) w2.heap.size 91 #[.int .i64 i,.int .i64 s,.int .i64 q,.slice (some ⟨ga,0,none⟩) xs.length c]:=by
   have:=Below.heap_setCell w5 ⟨ga,1,none⟩ (.int .i64 k) w2.heap.size (by show w2.heap.size≠ga;omega)
   exact this.trans Bt
  replace B0:Blk (w5.setCell ⟨ga,1,none⟩ (.int .i64 k)) w.heap.size 91 #[.int .i64 0,.int .i64 0,.int .i64 0,.slice none 0 0]:=(hbS.block _ (by omega)).trans B0
  replace hS:=hS.low hbS (by omega)
  replace hg:=grown_low hg (hbS.mono (by omega))
  clear hbS ho hys
  generalize w5.setCell ⟨ga,1,none⟩ (.int .i64 k)=w9 at Bt B0 hst hS hg
  rw [← hyl] at hst Bt hbk hx3
  have ho:=hst
  clear hst hyl hx1 hx1i hnb
  have p0:=B0.cell 0 _ rfl
  have f0:=B0.frozen 0
  have q0:=Bt.cell 0 _ rfl
  have p1:=B0.cell 1 _ rfl
  have f1:=B0.frozen 1
  have q1:=Bt.cell 1 _ rfl
  have p2:=B0.cell 2 _ rfl
  have f2:=B0.frozen 2
  have q2:=Bt.cell 2 _ rfl
  have p3:=B0.cell 3 _ rfl
  have f3:=B0.frozen 3
  have q3:=Bt.cell 3 _ rfl
  clear B0 Bt
  go_wp2
  refine bodyPost_ret (v:=.agg #[.int .i64 i,.int .i64 s,.int .i64 q,.slice (some ⟨ga,0,none⟩) ys.length c]) (by simp [results,Tryz.results38,go_sem,p0,p1,p2,p3,htb,hbt]) rfl ?_
  have hbE:Below w.heap.size w9 ((((w9.setCell ⟨w.heap.size,0,none⟩ (.int .i64 i)).setCell ⟨w.heap.size,1,none⟩ (.int .i64 s)).setCell ⟨w.heap.size,2,none⟩ (.int .i64 q)).setCell ⟨w.heap.size,3,none⟩ (.slice (some ⟨ga,0,none⟩) ys.length c)):=(((((Below.refl _ _).setCell (p:=⟨w.heap.size,0,none⟩) (Nat.le_refl _) _).setCell (p:=⟨w.heap.size,1,none⟩) (Nat.le_refl _) _).setCell (p:=⟨w.heap.size,2,none⟩) (Nat.le_refl _) _).setCell (p:=⟨w.heap.size,3,none⟩) (Nat.le_refl _) _)
  refine ⟨ i, s, q,(some ⟨ga,0,none⟩),c,ys,rfl,by omega,?_,(hS.low hbE hlt.2).mono (by omega),grown_low hg hbE⟩
  refine own_base (base:=w.heap.size + 1) ?_ (by omega)
  repeat' (first | refine ownsRow_setCell_below ?_ (show _ < w.heap.size + 1 from Nat.lt_succ_self _) _ | refine own_set_other ?_ (by intro k hk;have:=hbk k hk;omega))
  exact ho
 have hr2'' : (r == 2)=false:=by simpa using hr2'
 by_cases hr3:r=3
 ·subst hr3
  clear hnb hbk
  go_wp2_with fail
  have hltp:=hS.lt
  have hbA:Below w4.heap.size w4 (w4.alloc (.cells #[.int .i64 0,.int .i64 5] 2)):=by go_grown
  replace B0:=B0.below hbA
  replace Bt:=Bt.below hbA
  replace hg:=hg.trans (World.grownBy_alloc w4 (.cells #[.int .i64 0,.int .i64 5] 2) (some b))
  refine (pick_any B b (T + 13 + 1) w4.heap.size _ [0,5] _ (hS.below (by go_grown)) (by omega) (World.ownsRow_lit w4 _ 2 (Nat.le_refl _) (by decide) rfl) (by simp) (by simp) (by simp [Value.ownBlock];omega)).mono ?_
  rintro e w5 ⟨v,rfl,hmem,hSn,hgn⟩
  replace B0:=B0.grown hgn (by simp;omega)
  replace Bt:=Bt.grown hgn (by simp;omega)
  replace hg:=hg.trans hgn
  replace hS:=hSn
  have hsz_w5:=hgn.size
  clear hgn hSn
  replace hs3:w2.heap.size + 1≤w5.heap.size:=by simp at hsz_w5;omega
  clear hsz_w5 hbA
  obtain ⟨i0,hi,hz0,hz1,hz2⟩:=info_parts infoAct
  obtain ⟨m,rfl,hm5,hmade⟩:∃ m:Nat,v=m∧m≤5∧(madeCells #[Value.int .i64 0,.int .i64 0,.int .i64 0] (m * 3)).toList=actCells (List.replicate m actNo):=by
   simp at hmem
   rcases hmem with rfl | rfl
   ·exact ⟨0,rfl,by omega,made0⟩
   ·exact ⟨5,rfl,by omega,made5⟩
  have hby:i0.bytes * m≤281474976710656:=by rw [hz2];omega
  have hmx:m≤maxLen:=by unfold maxLen;omega
  clear hmem ho
  have q3' := Bt.cell 3 _ rfl
  go_wp2_with (at_make;refine wpList_make_full _ rfl _ _ 89 rfl w5.heap.size 131 i0 (.agg #[.int .i64 0,.int .i64 0,.int .i64 0]) 3 Tryz.underlying89 hi hz0 hz1 _ _ _ _ m rfl rfl rfl rfl hby hmx (Nat.le_refl _) ?_)
  intro w6 ho hgrow
  have hb6:Below w5.heap.size w5 w6:=(Below.refl _ _).grown hgrow (Nat.le_refl _) (by simp)
  clear q3' hmade
  replace B0:=B0.below hb6
  replace Bt:=Bt.below hb6
  replace hS:=hS.below hb6
  replace hg:=grown_low hg (hb6.mono hg.size)
  replace ho:=own_base ho (show w.heap.size + 1≤w5.heap.size by omega)
  have hbk:∀ j,(Value.slice (some ⟨w5.heap.size,0,none⟩) m m).ownBlock=some j→w2.heap.size < j:=by
   intro j hj
   simp [Value.ownBlock] at hj
   omega
  clear hgrow hb6
  have p0:=B0.cell 0 _ rfl
  have f0:=B0.frozen 0
  have q0:=Bt.cell 0 _ rfl
  have p1:=B0.cell 1 _ rfl
  have f1:=B0.frozen 1
  have q1:=Bt.cell 1 _ rfl
  have p2:=B0.cell 2 _ rfl
  have f2:=B0.frozen 2
  have q2:=Bt.cell 2 _ rfl
  have p3:=B0.cell 3 _ rfl
  have f3:=B0.frozen 3
  have q3:=Bt.cell 3 _ rfl
  have g3:=Bt.frozen 3
  clear B0 Bt
  go_wp2
  refine bodyPost_ret (v:=.agg #[.int .i64 i,.int .i64 s,.int .i64 q,.slice (some ⟨w5.heap.size,0,none⟩) m m]) (by simp [results,Tryz.results38,go_sem,p0,p1,p2,p3,htb,hbt]) rfl ?_
  have hbE:Below w.heap.size w6 (((((w6.setCell ⟨w2.heap.size,3,none⟩ (.slice (some ⟨w5.heap.size,0,none⟩) m m)).setCell ⟨w.heap.size,0,none⟩ (.int .i64 i)).setCell ⟨w.heap.size,1,none⟩ (.int .i64 s)).setCell ⟨w.heap.size,2,none⟩ (.int .i64 q)).setCell ⟨w.heap.size,3,none⟩ (.slice (some ⟨w5.heap.size,0,none⟩) m m)):=((((((Below.refl _ _).setCell (p:=⟨w2.heap.size,3,none⟩) (show w.heap.size≤w2.heap.size by omega) _).setCell (p:=⟨w.heap.size,0,none⟩) (Nat.le_refl _) _).setCell (p:=⟨w.heap.size,1,none⟩) (Nat.le_refl _) _).setCell (p:=⟨w.heap.size,2,none⟩) (Nat.le_refl _) _).setCell (p:=⟨w.heap.size,3,none⟩) (Nat.le_refl _) _)
  refine ⟨ i, s, q,(some ⟨w5.heap.size,0,none⟩),m,List.replicate m actNo,by simp,by simp;omega,?_,(hS.low hbE hlt.2).mono (by omega),grown_low hg hbE⟩
  rw [List.length_replicate]
  refine own_base (base:=w.heap.size + 1) ?_ (by omega)
  repeat' (first | refine ownsRow_setCell_below ?_ (show _ < w.heap.size + 1 from Nat.lt_succ_self _) _ | refine own_set_other ?_ (by intro k hk;have:=hbk k hk;omega))
  exact ho
 have hr3' : (r == 3)=false:=by simpa using hr3
 clear hr0 hr1 hr2' hr3
 have p0:=B0.cell 0 _ rfl
 have f0:=B0.frozen 0
 have q0:=Bt.cell 0 _ rfl
 have p1:=B0.cell 1 _ rfl
 have f1:=B0.frozen 1
 have q1:=Bt.cell 1 _ rfl
 have p2:=B0.cell 2 _ rfl
 have f2:=B0.frozen 2
 have q2:=Bt.cell 2 _ rfl
 have p3:=B0.cell 3 _ rfl
 have f3:=B0.frozen 3
 have q3:=Bt.cell 3 _ rfl
 clear B0 Bt
 go_wp2
 refine bodyPost_ret (v:=.agg #[.int .i64 i,.int .i64 s,.int .i64 q,.slice a xs.length c]) (by simp [results,Tryz.results38,go_sem,p0,p1,p2,p3,htb,hbt]) rfl ?_
 have hbE:Below w.heap.size w4 ((((w4.setCell ⟨w.heap.size,0,none⟩ (.int .i64 i)).setCell ⟨w.heap.size,1,none⟩ (.int .i64 s)).setCell ⟨w.heap.size,2,none⟩ (.int .i64 q)).setCell ⟨w.heap.size,3,none⟩ (.slice a xs.length c)):=(((((Below.refl _ _).setCell (p:=⟨w.heap.size,0,none⟩) (Nat.le_refl _) _).setCell (p:=⟨w.heap.size,1,none⟩) (Nat.le_refl _) _).setCell (p:=⟨w.heap.size,2,none⟩) (Nat.le_refl _) _).setCell (p:=⟨w.heap.size,3,none⟩) (Nat.le_refl _) _)
 refine ⟨ i, s, q,a,c,xs,rfl,by omega,?_,(hS.low hbE hlt.2).mono (by omega),grown_low hg hbE⟩
 refine own_base (base:=w.heap.size + 1) ?_ (by omega)
 repeat' (first | refine ownsRow_setCell_below ?_ (show _ < w.heap.size + 1 from Nat.lt_succ_self _) _ | refine own_set_other ?_ (by intro k hk;have:=hbk k hk;omega))
 exact ho

end Go.Proofs.YtdhdnppbgaikfaaGreatDoor
namespace Go.Proofs.YtdhdnppbgaikfaaGreatDoor
open Go.RowKit Go.Maps
set_option maxRecDepth 100000
/-- A list of transactions that is owned whole, its acts elsewhere than the list. -/
def TxnRow (base:Nat) (w:World) (v:Value) (ps:List TxnP):Prop:=
 w.ownsRow base 91 4 v ps.length (txnCells ps)∧(∀ p∈ps,w.ownsRow base 131 3 p.sl p.d.acts.length (actCells p.d.acts)∧(p.sl.ownBlock=none∨p.sl.ownBlock≠v.ownBlock))∧v≠.slice none 0 0

theorem TxnRow.at {base:Nat} {w:World} {v:Value} {ps:List TxnP} (h:TxnRow base w v ps):TxnsAt w v (ps.map TxnP.d):=by
 obtain ⟨a,c,rfl⟩:=own_shape h.1
 refine ⟨a,c,ps,by simp,rfl,Lies.own h.1,fun p hp=>?_⟩
 exact Lies.own (h.2.1 p hp).1

theorem TxnRow.src {base b:Nat} {w w' : World} {v:Value} {ps:List TxnP} (h:TxnRow base w v ps) (hb:b < base) (hg:w.grownBy w' (some b)):TxnRow base w' v ps:=
 ⟨h.1.kept hg (Or.inr (fun e=>own_not3 h.1 (Or.inl hb) e.symm)),fun p hp=>⟨(h.2.1 p hp).1.kept hg (Or.inr (fun e=>own_not3 (h.2.1 p hp).1 (Or.inl hb) e.symm)),(h.2.1 p hp).2⟩,h.2.2⟩

theorem TxnRow.below {base:Nat} {w w' : World} {v:Value} {ps:List TxnP} (h:TxnRow base w v ps) (hb:Below w.heap.size w w'):TxnRow base w' v ps:=
 ⟨own_below h.1 hb,fun p hp=>⟨own_below (h.2.1 p hp).1 hb,(h.2.1 p hp).2⟩,h.2.2⟩

theorem TxnRow.append {base:Nat} {w w' : World} {v v' : Value} {ps:List TxnP} (h:TxnRow base w v ps) (p:TxnP) (hp:w.ownsRow base 131 3 p.sl p.d.acts.length (actCells p.d.acts)) (hpn:p.sl.ownBlock=none∨p.sl.ownBlock≠v.ownBlock)
  (hown:w'.ownsRow base 91 4 v' (ps.length + 1) (txnCells ps ++ p.cells)) (hgrow:w.grownBy w' v.ownBlock) (hat:v'.ownBlock=v.ownBlock∨v'.ownBlock=some w.heap.size) (hnv:v' ≠ .slice none 0 0):TxnRow base w' v' (ps ++ [p]):=by
 have key:∀ r:TxnP,w.ownsRow base 131 3 r.sl r.d.acts.length (actCells r.d.acts)→(r.sl.ownBlock=none∨r.sl.ownBlock≠v.ownBlock)→w'.ownsRow base 131 3 r.sl r.d.acts.length (actCells r.d.acts)∧(r.sl.ownBlock=none∨r.sl.ownBlock≠v'.ownBlock):=by
  intro r hr hn
  refine ⟨hr.kept hgrow hn,?_⟩
  rcases hn with e | e
  ·exact Or.inl e
  ·right
   rcases hat with e2 | e2
   ·rw [e2];exact e
   ·rw [e2]
    intro e3
    have:=(hr.lt _ e3).2
    omega
 refine ⟨by simpa [txnCells] using hown,fun r hr=>?_,hnv⟩
 simp only [List.mem_append,List.mem_singleton] at hr
 rcases hr with hr | rfl
 ·exact key r (h.2.1 r hr).1 (h.2.1 r hr).2
 ·exact key r hp hpn

end Go.Proofs.YtdhdnppbgaikfaaGreatDoor

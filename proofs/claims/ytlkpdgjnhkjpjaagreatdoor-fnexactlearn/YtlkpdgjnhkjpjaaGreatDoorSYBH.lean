import Derived.Test.YtlkpdgjnhkjpjaaGreatDoorSYBG
import Derived.Test.YtlkpdgjnhkjpjaaGreatDoorSYBD
set_option linter.unusedVariables false
set_option linter.unusedSimpArgs false
set_option maxRecDepth 100000
set_option maxHeartbeats 2000000
namespace Go.Proofs.YtlkpdgjnhkjpjaaGreatDoor
open Go.RowKit Go.BigFrame
open IntKind renaming i64->S
open Value renaming int->V,slice->K
theorem z4C:(Tryz.prog.info? 95).map (·.size)=some 8:=by kernel_rfl
theorem z2j(c:Int)(w:World):
  Calls Tryz.prog 176 #[V S c] w fun e w'=>e=.returned (.agg #[V S c,V S 0,V S 0,K none 0 0,K none 0 0,K none 0 0,K none 0 0,K none 0 0])∧Below w.heap.size w w':=by
 have hB:Below w.heap.size w (w.alloc (.cells #[V S 0,V S 0,V S 0,K none 0 0,K none 0 0,K none 0 0,K none 0 0,K none 0 0] 95)):=by go_grown
 have Rb:=Blk.new w 95 #[V S 0,V S 0,V S 0,K none 0 0,K none 0 0,K none 0 0,K none 0 0,K none 0 0];have Rr:=Rb.row #[V S c,V S 0,V S 0,K none 0 0,K none 0 0,K none 0 0,K none 0 0,K none 0 0];have hBr:=z0j hB (g:=w.heap.size) (Nat.le_refl _) #[V S c,V S 0,V S 0,K none 0 0,K none 0 0,K none 0 0,K none 0 0,K none 0 0];go_enter Tryz.func176,Tryz.ntmps176
 go_wp2_with (first|(refine z0r (by kernel_rfl) 95 _ _ rfl _ #[V S c,V S 0,V S 0,K none 0 0,K none 0 0,K none 0 0,K none 0 0,K none 0 0] rfl rfl 95 _ Rb z4C rfl (by simp[Value.oneCell']) ?_))
 obtain⟨z0,z1,z2,z3,z4,z5,z6,z7⟩:=Rr.cel8;exact bodyPost_ret (v:=.agg #[V S c,V S 0,V S 0,K none 0 0,K none 0 0,K none 0 0,K none 0 0,K none 0 0]) (by simp[results,Tryz.results176,go_sem,z0,z1,z2,z3,z4,z5,z6,z7]) rfl ⟨rfl,hBr⟩
theorem q3d(c:Int)(w:World):(binOp .neq 148 (.iface 219 (.agg #[V S c])) .nilIface).run Tryz.prog w=.ok (.bool true) w:=by kernel_rfl
theorem q3e(w:World):(binOp .neq 148 .nilIface .nilIface).run Tryz.prog w=.ok (.bool false) w:=by kernel_rfl
theorem z2v{w:World}{B:Nat}{v:Value}{ps qs:List TxnQ}(o:w.ownsRow B 39 4 v (ps++qs).length (txnK.row (ps++qs)))(h1:∀p∈ps,txnK.rd w p)(h2:∀p∈qs,txnK.rd w p):txnK.At w v (ps++qs):=by
 obtain⟨a,c,rfl⟩:=z0f o;exact⟨a,c,rfl,Lies.own o,fun p hp=>(List.mem_append.1 hp).elim (h1 p) (h2 p)⟩
theorem At.rds{w:World}{v:Value}{ps:List TxnQ}(h:txnK.At w v ps):∀p∈ps,txnK.rd w p:=by
 obtain⟨a,c,_,_,h2⟩:=h;exact h2
theorem RecPost.shapes{w w':World}{vN iN vU iU:Value}{D E:List TxnD}(h:RecPost w w' vN iN vU iU D E):(∃a n c,vN=K a n c)∧(∃a n c,iN=K a n c)∧(∃a n c,vU=K a n c)∧(∃a n c,iU=K a n c):=by
 obtain⟨ds,us,rb,B0,R,e1,e2,h1,h2⟩:=h;obtain⟨a1,c1,s1⟩:=z0f R.oN;obtain⟨a2,c2,s2⟩:=R.jN.shape;obtain⟨a3,c3,s3⟩:=z0f R.oU;obtain⟨a4,c4,s4⟩:=R.jU.shape;exact⟨⟨_,_,_,s1⟩,⟨_,_,_,s2⟩,⟨_,_,_,s3⟩,⟨_,_,_,s4⟩⟩
theorem z80{w:World}{g:Nat}{va:Value}{y:List ActD}(h:actK.At w va y)(B:Blk w g 157 #[K none 0 0,K none 0 0,K none 0 0,K none 0 0])(cs:Array Value):actK.At (w.setRow g cs) va y:=by
 obtain⟨a,c,rfl,hL,_⟩:=h;refine⟨a,c,rfl,?_,fun _ _=>trivial⟩;rcases hL with h0|⟨b,d,rfl,C,hc⟩
 ·exact Or.inl h0
 ·by_cases he:actK.row y=[]
  ·exact Or.inl he
  ·refine Or.inr ⟨b,d,rfl,by simpa using C,fun j x hj=>?_⟩;have I:b≠g:=by
    rintro rfl;obtain⟨z,r,J⟩:∃z r,y=z::r:=by
     cases y with
     |nil=>exact absurd rfl he
     |cons z r=>exact⟨z,r,rfl⟩
    have h0:=hc 0 (V S z.kind) (by rw[J];rfl);rw[Nat.add_zero]at h0;have hB:w.heap[b]?=some (.cells #[K none 0 0,K none 0 0,K none 0 0,K none 0 0] 157 (0,0)):=B;have A:w.cell? ⟨b,d,none⟩=(#[K none 0 0,K none 0 0,K none 0 0,K none 0 0]:Array Value)[d]?:=by
     rcases Nat.lt_or_ge d 4 with h4|h4
     ·match d,h4 with
      |0,_=>exact B.cell 0 _ rfl
      |1,_=>exact B.cell 1 _ rfl
      |2,_=>exact B.cell 2 _ rfl
      |3,_=>exact B.cell 3 _ rfl
     ·have:w.cell? ⟨b,d,none⟩=none:=by
       simp[World.cell?,hB,show¬d<4 by omega]
      rw[this,Array.getElem?_eq_none (by simpa using h4)]
    rw[A]at h0
    match d,h0 with
    |0,h0=>simp at h0
    |1,h0=>simp at h0
    |2,h0=>simp at h0
    |3,h0=>simp at h0
    |(n+4),h0=>simp at h0
   rw[World.cell?_of_block (w:=w) (a:=⟨b,d+j,none⟩) (setRow_other w g b cs I)];exact hc j x hj
theorem RecPost.rebase{w w':World}{vN iN vU iU:Value}{D E:List TxnD}(h:RecPost w w' vN iN vU iU D E)(hb:Below w.heap.size w w'){g:Nat}(B:Blk w g 157 #[K none 0 0,K none 0 0,K none 0 0,K none 0 0])(cs:Array Value):
  RecPost (w.setRow g cs) (w'.setRow g cs) vN iN vU iU D E∧Below (w.setRow g cs).heap.size (w.setRow g cs) (w'.setRow g cs):=by
 have hg:=B.lt;obtain⟨ds,us,rb,B0,R,e1,e2,h1,h2⟩:=h.row hg cs;refine⟨⟨ds,us,rb,B0,⟨R.B,R.oN,fun p hp=>z80 (R.aN p hp) B cs,R.oU,fun p hp=>⟨z80 (R.aU p hp).1 B cs,(R.aU p hp).2⟩,R.jN,R.jU,R.nu,R.lN,R.lU,R.d1,R.d2,R.d3⟩,e1,e2,by simpa using h1,h2⟩,?_⟩;refine⟨hb.os,hb.tape,hb.output,by simpa using hb.size,fun k hk=>?_⟩;rw[size_setRow]at hk;by_cases hkg:k=g
 ·subst hkg;exact((B.below hb).row cs:_).trans ((B.row cs).symm)
 ·rw[setRow_other w' g k cs hkg,setRow_other w g k cs hkg];exact hb.block k hk
theorem z2w:(Tryz.prog.info? 157).map (·.size)=some 4:=by kernel_rfl
end Go.Proofs.YtlkpdgjnhkjpjaaGreatDoor

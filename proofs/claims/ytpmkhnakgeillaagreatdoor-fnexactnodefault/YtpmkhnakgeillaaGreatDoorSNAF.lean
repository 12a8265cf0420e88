/- Texts joined, with what the laws reach alone. -/
import Derived.Test.YtpmkhnakgeillaaGreatDoorSNAE
set_option linter.unusedVariables false
set_option linter.unusedSimpArgs false
namespace Go.Proofs.YtpmkhnakgeillaaGreatDoor
open Go.RowKit
set_option maxRecDepth 100000
end Go.Proofs.YtpmkhnakgeillaaGreatDoor
namespace Go.Proofs.YtpmkhnakgeillaaGreatDoor
open Go.RowKit
open Go.BigFrame
set_option maxRecDepth 100000
theorem inW_true {n lo hi:Int}:inW n lo hi=true↔lo≤n∧n≤hi:=by simp [inW]

theorem actsF_all {zs:List ActD} (h:actsF zs=0):∀ z∈zs,actF z=0:=by
 induction zs with
 | nil=>simp
 | cons x r ih=>
  simp only [actsF] at h
  split at h
  ·rename_i hx
   intro z hz
   rcases List.mem_cons.1 hz with rfl | hz
   ·exact hx
   ·exact ih h z hz
  ·rename_i hx;exact absurd h hx

theorem txnF_zero {i s q:Int} {zs:List ActD} (h:txnF i s q zs=0):(1≤i∧i≤200)∧(1≤s∧s≤9)∧(1≤q∧q≤99)∧(1≤zs.length∧zs.length≤4)∧∀ z∈zs,actF z=0:=by
 unfold txnF at h
 split at h
 ·simp at h
 ·rename_i h1
  split at h
  ·simp at h
  ·rename_i h2
   simp only [not_or,Bool.not_eq_false,inW_true] at h1
   exact ⟨h1.1,h1.2.1,h1.2.2,by omega,actsF_all h⟩

theorem Box4.cells {w:World} {b o:Nat} {x0 x1 x2 x3:Value} (h:Box4 w b o x0 x1 x2 x3):b < w.heap.size:=World.block_lt_of_cell? w ⟨b,o,none⟩ h.c0

end Go.Proofs.YtpmkhnakgeillaaGreatDoor
namespace Go.Proofs.YtpmkhnakgeillaaGreatDoor
open Go.RowKit
open Go.BigFrame
set_option maxRecDepth 100000
/-- A box of two cells that may be written. -/
structure Box2 (w:World) (b:Nat) (x y:Value):Prop where
 lt:b < w.heap.size
 c0:w.cell? ⟨b,0,none⟩=some x
 c1:w.cell? ⟨b,1,none⟩=some y
 f0:w.frozen? ⟨b,0,none⟩=false
 f1:w.frozen? ⟨b,1,none⟩=false

theorem Box2.below {w w' : World} {b:Nat} {x y:Value} (h:Box2 w b x y) (hb:Below w.heap.size w w'):Box2 w' b x y:=
 ⟨Nat.lt_of_lt_of_le h.lt hb.size,by rw [hb.cell (p:=⟨b,0,none⟩) h.lt];exact h.c0,by rw [hb.cell (p:=⟨b,1,none⟩) h.lt];exact h.c1,by rw [hb.frozen (p:=⟨b,0,none⟩) h.lt];exact h.f0,by rw [hb.frozen (p:=⟨b,1,none⟩) h.lt];exact h.f1⟩

end Go.Proofs.YtpmkhnakgeillaaGreatDoor
namespace Go.Proofs.YtpmkhnakgeillaaGreatDoor
open Go.RowKit
open Go.BigFrame
set_option maxRecDepth 100000
def TxnD.F (d:TxnD):Int:=txnF d.id d.session d.seq d.acts

def allF:List TxnD→Int
 | []=>0
 | d :: r=>if d.F=0 then allF r else d.F

def idsC (ds:List TxnD):Int:=if 60 < ds.length then 2 else allF ds

def idsR (ds:List TxnD):List Int:=if idsC ds=0 then ds.map TxnD.id else []

def idsL (ds:List TxnD) (k:Nat):List Int:=(ds.take k).map TxnD.id

theorem idsL_succ (ds:List TxnD) (k:Nat) (h:k < ds.length):idsL ds (k + 1)=idsL ds k ++ [(ds.getD k txnNo).id]:=by
 have e:ds.getD k txnNo=ds[k]:=by simp [List.getD,h]
 rw [idsL,idsL,List.take_succ_eq_append_getElem h,e]
 simp only [List.map_append,List.map_cons,List.map_nil]

theorem idsL_length (ds:List TxnD) (k:Nat) (h:k≤ds.length):(idsL ds k).length=k:=by simp [idsL];omega

theorem idsR_le (ds:List TxnD):(idsR ds).length≤ds.length:=by
 unfold idsR
 split <;> simp

theorem allF_first (ds:List TxnD):∀ k,(∀ j,j < k→(ds.getD j txnNo).F=0)→k < ds.length→(ds.getD k txnNo).F≠0→allF ds=(ds.getD k txnNo).F:=by
 induction ds with
 | nil=>intro k _ h;simp at h
 | cons x r ih=>
  intro k h0 hk hne
  cases k with
  | zero=>simp [List.getD] at hne ⊢;simp [allF,hne]
  | succ k=>
   have hx:x.F=0:=by simpa [List.getD] using h0 0 (by omega)
   have:=ih k (fun j hj=>by simpa [List.getD] using h0 (j + 1) (by omega)) (by simpa using hk) (by simpa [List.getD] using hne)
   simp only [allF,hx,if_true]
   rw [this]
   simp [List.getD]

theorem allF_none (ds:List TxnD) (h:∀ j,j < ds.length→(ds.getD j txnNo).F=0):allF ds=0:=by
 induction ds with
 | nil=>rfl
 | cons x r ih=>
  have hx:x.F=0:=by simpa [List.getD] using h 0 (by simp)
  simp only [allF,hx,if_true]
  exact ih (fun j hj=>by simpa [List.getD] using h (j + 1) (by simpa using hj))

theorem TxnsAt.box {w:World} {b off i:Nat} {z:TxnD} {aa:Option Addr} {cc:Nat} (h0:w.cell? ⟨b,off + i * 4,none⟩=some (.int .i64 z.id)) (h1:w.cell? ⟨b,off + i * 4 + 1,none⟩=some (.int .i64 z.session)) (h2:w.cell? ⟨b,off + i * 4 + 2,none⟩=some (.int .i64 z.seq))
  (h3:w.cell? ⟨b,off + i * 4 + 3,none⟩=some (.slice aa z.acts.length cc)):Box4 w b (off + i * 4) (.int .i64 z.id) (.int .i64 z.session) (.int .i64 z.seq) (.slice aa z.acts.length cc):=⟨h0,h1,h2,h3⟩

set_option maxHeartbeats 1000000 in
theorem l2Ids_any (v:Value) (ds:List TxnD) (w:World) (h:TxnsAt w v ds) (hl:ds.length≤60) :
  Calls Tryz.prog 251 #[v] w fun e w' => ∃ b c,e=.returned (.slice b (ds.map TxnD.id).length c)∧w'.ownsRow w.heap.size 2 1 (.slice b (ds.map TxnD.id).length c) (ds.map TxnD.id).length ((ds.map TxnD.id).map (Value.int .i64))∧Below w.heap.size w w' := by
 obtain ⟨a,cap,rfl⟩:=h.shape
 obtain ⟨i0,hi,hz0,hz1,hz2⟩:=info_parts infoI64
 go_enter Tryz.func251,Tryz.ntmps251
 go_wp2
 go_loopw [3,4] (fun v j wr=>∃ k:Nat,k≤ds.length∧j=.int .i64 k∧wr.ownsRow w.heap.size 2 1 v (idsL ds k).length ((idsL ds k).map (Value.int .i64))∧Below w.heap.size w wr) (fun _ j _=>ds.length - (intOf j).toNat)
 case atStart=>exact ⟨0,Nat.zero_le _,rfl,by first | exact World.ownsRow_lit w #[] 0 (Nat.le_refl _) (by decide) rfl | (simp [idsL];exact World.ownsRow_lit w #[] 0 (Nat.le_refl _) (by decide) rfl),by go_grown⟩
 case round=>
  obtain ⟨k,hk,rfl,ho,hb⟩:=hrel
  have hsz:=hb.size
  have hkl:(idsL ds k).length≤60:=by rw [idsL_length ds k hk];omega
  obtain ⟨a1,c1,rfl⟩:=own_shape ho
  by_cases hlt:k < ds.length
  ·have hsu:Hid (idsL ds (k + 1)=idsL ds k ++ [(ds.getD k txnNo).id]):=idsL_succ ds k hlt
   obtain ⟨b,off,aa,cc,rfl,hbs,hc0,_⟩:=(h.below hb).at k hlt
   generalize (ds.getD k txnNo).id=z at hc0 hsu
   have hW2:Below w.heap.size wr (wr.alloc (.cells #[.int .i64 z] 2)):=(Below.refl _ _).alloc hsz _
   have ho2:=ho.alloc (.cells #[.int .i64 z] 2)
   go_wp2_with (at_builtin;refine wpList_append_own _ rfl _ _ 115 rfl w.heap.size 2 i0 (.int .i64 0) 1 8 Tryz.underlying115 hi hz0 hz1 hz2 rfl (by decide) _ (idsL ds k).length ((idsL ds k).map (Value.int .i64)) rfl ho2 ⟨wr.heap.size,0,none⟩ 1 1 [.int .i64 z] rfl rfl ?c1 ?c2 ?c3 ?c4 ?c5 ?_)
   all_goals try
    (case c1=>intro j u hj;match j,hj with | 0,hj=>simp at hj;subst hj;simp [Addr.add])
   all_goals try (case c2=>first | rfl | (intro u hu;simp at hu;subst hu;rfl))
   all_goals try (case c3=>unfold maxLen;omega)
   all_goals try (case c4=>omega)
   all_goals try (case c5=>first | omega | (simp;omega))
   intro v' w2 hown hgrow _
   obtain ⟨a2,c2,rfl⟩:=own_shape hown
   have hW3:Below w.heap.size wr w2:=hW2.grown hgrow (by simp;omega) (fun j hj=>(ho.lt j hj).1)
   clear hW2 hgrow ho2 ho
   have R:Hid (w2.ownsRow w.heap.size 2 1 (.slice a2 ((idsL ds k).length + 1) c2) ((idsL ds k).length + 1) ((idsL ds k ++ [z]).map (Value.int .i64))∧Below w.heap.size w w2):=⟨by simpa using hown,hb.trans hW3⟩
   clear hown hW3
   go_wp2
   go_roundw
   case rel=>
    refine ⟨k + 1,by omega,by go_num,?_,R.out.2⟩
    rw [hsu.out]
    simpa using R.out.1
   case measure=>simp [intOf];omega
  ·have hkk:k=ds.length:=by omega
   subst hkk
   have e:idsL ds ds.length=ds.map TxnD.id:=by simp [idsL]
   rw [e] at ho
   clear hkl
   go_wp2
   go_ret
   rw [e]
   exact ⟨_,_,rfl,ho,hb⟩

end Go.Proofs.YtpmkhnakgeillaaGreatDoor
namespace Go.Proofs.YtpmkhnakgeillaaGreatDoor
open Go.RowKit
open Go.BigFrame
set_option maxRecDepth 100000
theorem idsC_few {ds:List TxnD} (h:idsC ds=0):ds.length≤60:=by
 unfold idsC at h
 split at h
 ·simp at h
 ·omega

set_option maxRecDepth 100000 in
set_option maxHeartbeats 2000000 in
theorem implIdsOf_any (v:Value) (ds:List TxnD) (w:World) (h:TxnsAt w v ds) (hl:ds.length + sumA ds≤1048576) :
  Calls Tryz.prog 182 #[v] w fun e w' => ∃ b c,e=.returned (.agg #[.int .i64 (idsC ds),.slice b (idsR ds).length c]) ∧
   w'.ownsRow w.heap.size 2 1 (.slice b (idsR ds).length c) (idsR ds).length ((idsR ds).map (Value.int .i64))∧Below w.heap.size w w' := by
 obtain ⟨a,cap,rfl⟩:=h.shape
 by_cases h60:60 < ds.length
 ·have e1:idsC ds=2:=if_pos h60
  have e2:idsR ds=[]:=if_neg (by rw [e1];decide)
  rw [e1,e2]
  clear e1 e2
  go_enter Tryz.func182,Tryz.ntmps182
  go_wp2
  exact bodyPost_ret (v:=.agg #[.int .i64 2,.slice none 0 0]) (by simp [results,Tryz.results182,go_sem]) rfl ⟨_,_,rfl,World.ownsRow_nil _ _ _ _,by go_grown⟩
 ·have e1:idsC ds=allF ds:=if_neg h60
  have hR0:Box2 (w.alloc (.cells #[.int .i64 0,.slice none 0 0] 247)) w.heap.size (.int .i64 0) (.slice none 0 0):=⟨by simp,by simp,by simp,by simp,by simp⟩
  have hb0:Below w.heap.size w (w.alloc (.cells #[.int .i64 0,.slice none 0 0] 247)):=by go_grown
  obtain ⟨i0,hi,hz0,hz1,hz2⟩:=info_parts infoI64
  go_enter Tryz.func182,Tryz.ntmps182
  go_wp2
  generalize w.alloc (.cells #[.int .i64 0,.slice none 0 0] 247)=W at hR0 hb0
  have hsW:=hR0.lt
  go_loopw [3,13] (fun v j wr=>∃ k:Nat,k≤ds.length∧j=.int .i64 k∧wr.ownsRow W.heap.size 2 1 v (idsL ds k).length ((idsL ds k).map (Value.int .i64))∧Below W.heap.size W wr∧Hid (∀ j,j < k→(ds.getD j txnNo).F=0)) (fun _ j _=>ds.length - (intOf j).toNat)
  case atStart=>exact ⟨0,Nat.zero_le _,rfl,World.ownsRow_nil _ _ _ _,Below.refl _ _,fun j hj=>absurd hj (Nat.not_lt_zero _)⟩
  case round=>
   obtain ⟨k,hk,rfl,ho,hb,HA⟩:=hrel
   have hsz:=hb.size
   have hkl:(idsL ds k).length≤60:=by rw [idsL_length ds k hk];omega
   obtain ⟨a1,c1,rfl⟩:=own_shape ho
   by_cases hlt:k < ds.length
   ·obtain ⟨b,off,aa,cc,rfl,hbs,hc0,hc1,hc2,hc3,hA⟩:=(h.below (below_from hb0 hb)).at k hlt
    have hzl:(ds.getD k txnNo).acts.length≤sumA ds:=mem_le_sumA (by simp [List.getD,hlt])
    have hcall:=fun w h=>txnFault_any (ds.getD k txnNo).id (ds.getD k txnNo).session (ds.getD k txnNo).seq aa cc (ds.getD k txnNo).acts w h (by omega)
    change ∀ w h,Calls _ _ _ _ fun e w' => e=.returned (.int .i64 ((ds.getD k txnNo).F))∧_ at hcall
    by_cases hF:(ds.getD k txnNo).F=0
    ·have HB:Hid (∀ j,j < k + 1→(ds.getD j txnNo).F=0):=by
      intro j hj
      by_cases hjk:j=k
      ·subst hjk;exact hF
      ·exact HA.out j (by omega)
     have hsu:Hid (idsL ds (k + 1)=idsL ds k ++ [(ds.getD k txnNo).id]):=idsL_succ ds k hlt
     rw [hF] at hcall
     clear HA hF
     generalize ds.getD k txnNo=z at hc0 hc1 hc2 hc3 hA hcall hsu hzl
     obtain ⟨z0,z1,z2,zs⟩:=z
     dsimp only at hc0 hc1 hc2 hc3 hA hcall hzl
     have hW1:Below wr.heap.size wr (wr.alloc (.cells #[.int .i64 z0,.int .i64 z1,.int .i64 z2,.slice aa zs.length cc] 39)):=by go_grown
     have hBt:=Blk.new wr 39 #[.int .i64 z0,.int .i64 z1,.int .i64 z2,.slice aa zs.length cc]
     go_wp2_with fail
     generalize wr.alloc (.cells #[.int .i64 z0,.int .i64 z1,.int .i64 z2,.slice aa zs.length cc] 39)=w1 at hW1 hBt
     refine (hcall _ (hA.below hW1)).mono ?_
     rintro e w2 ⟨rfl,hb2⟩
     replace hW1:=hW1.trans (hb2.mono hW1.size)
     have p0:=(hBt.below hb2).cell 0 _ rfl
     have ho1:=own_below ho hW1
     have hs2:=hW1.size
     clear hb2 hBt hcall hA hc0 hc1 hc2 hc3
     have hW2:Below W.heap.size w2 (w2.alloc (.cells #[.int .i64 z0] 2)):=(Below.refl _ _).alloc (by omega) _
     have ho2:=ho1.alloc (.cells #[.int .i64 z0] 2)
     go_wp2_with (at_builtin;refine wpList_append_own _ rfl _ _ 115 rfl W.heap.size 2 i0 (.int .i64 0) 1 8 Tryz.underlying115 hi hz0 hz1 hz2 rfl (by decide) _ (idsL ds k).length ((idsL ds k).map (Value.int .i64)) rfl ho2 ⟨w2.heap.size,0,none⟩ 1 1 [.int .i64 z0] rfl rfl ?c1 ?c2 ?c3 ?c4 ?c5 ?_)
     all_goals try
      (case c1=>intro j u hj;match j,hj with | 0,hj=>simp at hj;subst hj;simp [Addr.add])
     all_goals try (case c2=>first | rfl | (intro u hu;simp at hu;subst hu;rfl))
     all_goals try (case c3=>unfold maxLen;omega)
     all_goals try (case c4=>omega)
     all_goals try (case c5=>first | omega | (simp;omega))
     intro v' w3 hown hgrow _
     obtain ⟨a2,c2,rfl⟩:=own_shape hown
     have hW3:Below W.heap.size w2 w3:=hW2.grown hgrow (by simp;omega) (fun j hj=>(ho1.lt j hj).1)
     have R:Hid (w3.ownsRow W.heap.size 2 1 (.slice a2 ((idsL ds k).length + 1) c2) ((idsL ds k).length + 1) ((idsL ds k ++ [z0]).map (Value.int .i64))∧Below W.heap.size W w3):=⟨by simpa using hown,(hb.trans (hW1.mono hsz)).trans hW3⟩
     clear hW2 hgrow ho2 ho hown hW3 ho1 hW1 p0
     go_wp2
     go_roundw
     case rel=>
      refine ⟨k + 1,by omega,by go_num,?_,R.out.2,HB⟩
      rw [hsu.out]
      simpa using R.out.1
     case measure=>simp [intOf];omega
    ·have E:Hid (allF ds=(ds.getD k txnNo).F):=allF_first ds k HA.out hlt hF
     have hne:((ds.getD k txnNo).F != 0)=true:=by simpa using hF
     have E2:Hid (idsR ds=[]):=if_neg (by rw [e1,E.out];exact hF)
     clear HA hF
     generalize (ds.getD k txnNo).F=r at hcall E hne
     generalize ds.getD k txnNo=z at hc0 hc1 hc2 hc3 hA hcall hzl
     obtain ⟨z0,z1,z2,zs⟩:=z
     dsimp only at hc0 hc1 hc2 hc3 hA hcall hzl
     have hW1:Below wr.heap.size wr (wr.alloc (.cells #[.int .i64 z0,.int .i64 z1,.int .i64 z2,.slice aa zs.length cc] 39)):=by go_grown
     have E1:Hid (idsC ds=allF ds):=e1
     clear e1
     go_wp2_with fail
     generalize wr.alloc (.cells #[.int .i64 z0,.int .i64 z1,.int .i64 z2,.slice aa zs.length cc] 39)=w1 at hW1
     refine (hcall _ (hA.below hW1)).mono ?_
     rintro e w2 ⟨rfl,hb2⟩
     obtain ⟨hlt0,q0,q1,g0,g1⟩:=((hR0.below hb).below hW1).below hb2
     clear hcall hA hc0 hc1 hc2 hc3 ho
     go_wp2
     refine bodyPost_ret (v:=.agg #[.int .i64 r,.slice none 0 0]) (by simp [results,Tryz.results182,go_sem,q0,q1]) rfl ?_
     rw [E1.out,E.out,E2.out]
     refine ⟨_,_,rfl,World.ownsRow_nil _ _ _ _,?_⟩
     repeat' (refine Below.setCell ?_ (by dsimp only;omega) _)
     exact below_from (below_from (below_from hb0 hb) hW1) hb2
   ·have hkk:k=ds.length:=by omega
    subst hkk
    have E:Hid (idsC ds=0):=e1.trans (allF_none ds HA.out)
    have E2:Hid (idsR ds=idsL ds ds.length):=by
     show _=_
     rw [show idsR ds=ds.map TxnD.id from if_pos E.out]
     simp [idsL]
    clear HA e1
    obtain ⟨hlt0,q0,q1,g0,g1⟩:=hR0.below hb
    generalize idsL ds ds.length=L at ho E2 hkl
    go_wp2
    refine bodyPost_ret (v:=.agg #[.int .i64 0,.slice a1 L.length c1]) (by simp [results,Tryz.results182,go_sem,q0,q1]) rfl ?_
    rw [E.out,E2.out]
    refine ⟨_,_,rfl,?_,?_⟩
    ·refine own_base (base:=W.heap.size) ?_ hb0.size
     repeat' (refine ownsRow_setCell_below ?_ (by dsimp only;omega) _)
     exact ho
    ·repeat' (refine Below.setCell ?_ (by dsimp only;omega) _)
     exact below_from hb0 hb

end Go.Proofs.YtpmkhnakgeillaaGreatDoor
namespace Go.Proofs.YtpmkhnakgeillaaGreatDoor
open Go.RowKit
open Go.BigFrame
set_option maxRecDepth 100000
/-- The first place of x, or the length. -/
def idxN:List Int→Int→Nat
 | [],_=>0
 | y :: r,x=>if y=x then 0 else idxN r x + 1

theorem idxN_at (L:List Int) (x:Int):∀ k,(∀ j,j < k→L.getD j 0≠x)→k < L.length→L.getD k 0=x→idxN L x=k:=by
 induction L with
 | nil=>intro k _ h;simp at h
 | cons y r ih=>
  intro k h0 hk he
  cases k with
  | zero=>simp [List.getD] at he;simp [idxN,he]
  | succ k=>
   have hy:y≠x:=by simpa [List.getD] using h0 0 (by omega)
   simp only [idxN,hy,if_false]
   rw [ih k (fun j hj=>by simpa [List.getD] using h0 (j + 1) (by omega)) (by simpa using hk) (by simpa [List.getD] using he)]

theorem idxN_none (L:List Int) (x:Int) (h:∀ j,j < L.length→L.getD j 0≠x):idxN L x=L.length:=by
 induction L with
 | nil=>rfl
 | cons y r ih=>
  have hy:y≠x:=by simpa [List.getD] using h 0 (by simp)
  simp only [idxN,hy,if_false,List.length_cons]
  rw [ih (fun j hj=>by simpa [List.getD] using h (j + 1) (by simpa using hj))]

def idxI (L:List Int) (x:Int):Int:=if idxN L x < L.length then (idxN L x:Int) else -1

set_option maxRecDepth 100000 in
set_option maxHeartbeats 1000000 in
theorem l1Find_any (a:Option Addr) (cap:Nat) (L:List Int) (x:Int) (w:World) (h:Row .i64 w a L) (hl:L.length≤1048576) :
  Calls Tryz.prog 250 #[.slice a L.length cap,.int .i64 x] w fun e w' => e=.returned (.int .i64 (idxI L x))∧w' = w:=by
 go_enter Tryz.func250,Tryz.ntmps250
 go_wp2
 go_loop [5] (fun j=>∃ k:Nat,k≤L.length∧j=.int .i64 k∧Hid (∀ j,j < k→L.getD j 0≠x)) (fun j=>L.length - (intOf j).toNat)
 case atStart=>exact ⟨0,Nat.zero_le _,rfl,fun j hj=>absurd hj (Nat.not_lt_zero _)⟩
 case round=>
  obtain ⟨k,hk,rfl,HA⟩:=hrel
  by_cases hlt:k < L.length
  ·obtain ⟨b,off,rfl,hbs,hc⟩:=h k hlt
   by_cases he:L.getD k 0=x
   ·have E:Hid (idxI L x=(k:Int)):=by
     show _=_
     rw [idxI,idxN_at L x k HA.out hlt he,if_pos hlt]
    have hee:(L.getD k 0 == x)=true:=by simpa using he
    clear HA he
    generalize L.getD k 0=z at hc hee
    go_wp2
    go_ret
    rw [E.out]
    exact ⟨rfl,rfl⟩
   ·have HB:Hid (∀ j,j < k + 1→L.getD j 0≠x):=by
     intro j hj
     by_cases hjk:j=k
     ·subst hjk;exact he
     ·exact HA.out j (by omega)
    have hee:(L.getD k 0 == x)=false:=by simpa using he
    clear HA he
    generalize L.getD k 0=z at hc hee
    go_wp2
    go_round
    case rel=>exact ⟨k + 1,by omega,by go_num,HB⟩
    case measure=>simp [intOf];omega
  ·have hkl:k=L.length:=by omega
   subst hkl
   have E:Hid (idxI L x=-1):=by
    show _=_
    rw [idxI,idxN_none L x HA.out,if_neg (Nat.lt_irrefl _)]
   clear HA
   go_wp2
   go_ret
   rw [E.out]
   exact ⟨rfl,rfl⟩

theorem acts_oneCell (zs:List ActD):∀ u∈actCells zs,u.oneCell' = true:=by
 intro u hu
 simp only [actCells,List.mem_flatMap,ActD.cells,List.mem_cons,List.not_mem_nil,or_false] at hu
 obtain ⟨z,_,rfl | rfl | rfl⟩:=hu <;> rfl

theorem lies_src {w:World} {b off:Nat} {xs:List Value} (h:Lies w (some ⟨b,off,none⟩) xs):∀ j u,xs[j]? = some u→w.cell? ((⟨b,off,none⟩:Addr).add j)=some u:=by
 intro j u hj
 rcases h with rfl | ⟨b',off',e,_,hc⟩
 ·simp at hj
 ·simp only [Option.some.injEq,Addr.mk.injEq,and_true] at e
  obtain ⟨rfl,rfl⟩:=e
  rw [Addr.add_lit]
  exact hc j u hj

set_option maxRecDepth 100000 in
set_option maxHeartbeats 1000000 in
theorem l2Copy_any (i s q:Int) (b off cap:Nat) (zs:List ActD) (w:World) (h:ActRow w (some ⟨b,off,none⟩) zs) (h0:0 < zs.length) (hl:zs.length≤1048576) :
  Calls Tryz.prog 173 #[.agg #[.int .i64 i,.int .i64 s,.int .i64 q,.slice (some ⟨b,off,none⟩) zs.length cap]] w fun e w' => ∃ a c,e=.returned (.agg #[.int .i64 i,.int .i64 s,.int .i64 q,.slice a zs.length c]) ∧
   w'.ownsRow w.heap.size 145 3 (.slice a zs.length c) zs.length (actCells zs)∧Below w.heap.size w w' := by
 obtain ⟨i0,hi,hz0,hz1,hz2⟩:=info_parts infoAct
 have hs:=lies_src (Lies.below h (w' := ((w.alloc (.cells #[.int .i64 i,.int .i64 s,.int .i64 q,.slice (some ⟨b,off,none⟩) zs.length cap] 39)).alloc (.cells #[.int .i64 0,.int .i64 0,.int .i64 0,.slice none 0 0] 39)).alloc (.cells #[] 145)) (by go_grown))
 have hcl:=actCells_length zs
 have ho:=World.ownsRow_lit (e:=145) (size:=3) ((w.alloc (.cells #[.int .i64 i,.int .i64 s,.int .i64 q,.slice (some ⟨b,off,none⟩) zs.length cap] 39)).alloc (.cells #[.int .i64 0,.int .i64 0,.int .i64 0,.slice none 0 0] 39)) #[] 0 (Nat.le_refl _) (by decide) rfl
 have hb1:Below w.heap.size w (((w.alloc (.cells #[.int .i64 i,.int .i64 s,.int .i64 q,.slice (some ⟨b,off,none⟩) zs.length cap] 39)).alloc (.cells #[.int .i64 0,.int .i64 0,.int .i64 0,.slice none 0 0] 39)).alloc (.cells #[] 145)):=by go_grown
 have B1:=(Blk.new w 39 #[.int .i64 i,.int .i64 s,.int .i64 q,.slice (some ⟨b,off,none⟩) zs.length cap]).below (w' := ((w.alloc (.cells #[.int .i64 i,.int .i64 s,.int .i64 q,.slice (some ⟨b,off,none⟩) zs.length cap] 39)).alloc (.cells #[.int .i64 0,.int .i64 0,.int .i64 0,.slice none 0 0] 39)).alloc (.cells #[] 145)) (by go_grown)
 have B2:=(Blk.new (w.alloc (.cells #[.int .i64 i,.int .i64 s,.int .i64 q,.slice (some ⟨b,off,none⟩) zs.length cap] 39)) 39 #[.int .i64 0,.int .i64 0,.int .i64 0,.slice none 0 0]).below (w' := ((w.alloc (.cells #[.int .i64 i,.int .i64 s,.int .i64 q,.slice (some ⟨b,off,none⟩) zs.length cap] 39)).alloc (.cells #[.int .i64 0,.int .i64 0,.int .i64 0,.slice none 0 0] 39)).alloc (.cells #[] 145)) (by go_grown)
 have HS:Hid (∀ j u,(actCells zs)[j]? = some u→_):=hs
 clear hs
 simp only [World.size_alloc] at B2 ho
 go_enter Tryz.func173,Tryz.ntmps173
 go_wp2_with (at_builtin;refine wpList_append_own _ rfl _ _ 37 rfl (w.heap.size + 1 + 1) 145 i0 (.agg #[.int .i64 0,.int .i64 0,.int .i64 0]) 3 24 Tryz.underlying37 hi hz0 hz1 hz2 rfl (by decide) _ 0 [] rfl ho ⟨b,off,none⟩ zs.length cap (actCells zs) rfl hcl HS.out ?c2 ?c3 ?c4 ?c5 ?_)
 all_goals try (case c2=>exact acts_oneCell zs)
 all_goals try (case c3=>unfold maxLen;omega)
 all_goals try (case c4=>omega)
 all_goals try (case c5=>simp)
 intro v' w2 hown hgrow _
 obtain ⟨a2,c2,rfl⟩:=own_shape hown
 replace B1:=B1.grown hgrow (by simp [Value.ownBlock] <;> omega)
 replace B2:=B2.grown hgrow (by simp [Value.ownBlock] <;> omega)
 have hb2:Below w.heap.size w w2:=hb1.grown hgrow (by simp;omega) (fun k hk=>by simp [Value.ownBlock] at hk;omega)
 have hlt2:=B2.lt
 have p0:=B1.cell 0 _ rfl
 have p1:=B1.cell 1 _ rfl
 have p2:=B1.cell 2 _ rfl
 have p3:=B1.cell 3 _ rfl
 have pf:=B1.frozen 3
 have q0:=B2.cell 0 _ rfl
 have q1:=B2.cell 1 _ rfl
 have q2:=B2.cell 2 _ rfl
 have q3:=B2.cell 3 _ rfl
 have f0:=B2.frozen 0
 have f1:=B2.frozen 1
 have f2:=B2.frozen 2
 have f3:=B2.frozen 3
 try simp only [Nat.zero_add] at hown
 clear B1 B2 hgrow HS ho hb1
 go_wp2
 refine bodyPost_ret (v:=.agg #[.int .i64 i,.int .i64 s,.int .i64 q,.slice a2 zs.length c2]) (by simp [results,Tryz.results173,go_sem,q0,q1,q2,q3]) rfl ⟨_,_,rfl,?_,?_⟩
 ·refine own_base (base:=w.heap.size + 1 + 1) ?_ (by omega)
  repeat' (refine ownsRow_setCell_below ?_ (by dsimp only;omega) _)
  simpa using hown
 ·repeat' (refine Below.setCell ?_ (by dsimp only;omega) _)
  exact hb2

set_option maxRecDepth 100000 in
set_option maxHeartbeats 1000000 in
theorem clone_any (b off cap:Nat) (zs:List ActD) (w:World) (h:ActRow w (some ⟨b,off,none⟩) zs) (h0:0 < zs.length) (hl:zs.length≤1048576) :
  Calls Tryz.prog 186 #[.slice (some ⟨b,off,none⟩) zs.length cap] w fun e w' => ∃ a c,e=.returned (.slice a zs.length c) ∧
   w'.ownsRow w.heap.size 145 3 (.slice a zs.length c) zs.length (actCells zs)∧Below w.heap.size w w' := by
 obtain ⟨i0,hi,hz0,hz1,hz2⟩:=info_parts infoAct
 have hs:=lies_src (Lies.below h (w' := w.alloc (.cells #[] 145)) (by go_grown))
 have hcl:=actCells_length zs
 have ho:=World.ownsRow_lit (e:=145) (size:=3) w #[] 0 (Nat.le_refl _) (by decide) rfl
 have HS:Hid (∀ j u,(actCells zs)[j]? = some u→_):=hs
 clear hs
 have hnil:∀ w,(binOp .eql 37 (.slice (some ⟨b,off,none⟩) zs.length cap) (.slice none 0 0)).run Tryz.prog w=.ok (.bool false) w:=fun w=>by first | rfl | kernel_rfl | (simp only [binOp];simp [Op.equal,Op.maxDepth,Op.equalIn,run_underlying Tryz.underlying37])
 go_enter Tryz.func186,Tryz.ntmps186
 go_wp2_with (at_builtin;refine wpList_append_own _ rfl _ _ 37 rfl w.heap.size 145 i0 (.agg #[.int .i64 0,.int .i64 0,.int .i64 0]) 3 24 Tryz.underlying37 hi hz0 hz1 hz2 rfl (by decide) _ 0 [] rfl ho ⟨b,off,none⟩ zs.length cap (actCells zs) rfl hcl HS.out ?c2 ?c3 ?c4 ?c5 ?_)
 all_goals try (case c2=>exact acts_oneCell zs)
 all_goals try (case c3=>unfold maxLen;omega)
 all_goals try (case c4=>omega)
 all_goals try (case c5=>simp)
 intro v' w2 hown hgrow _
 obtain ⟨a2,c2,rfl⟩:=own_shape hown
 have hb2:Below w.heap.size w w2:=((Below.refl _ _).alloc (Nat.le_refl _) _).grown hgrow (by simp) (fun k hk=>by simp [Value.ownBlock] at hk;omega)
 try simp only [Nat.zero_add] at hown
 clear hgrow HS ho
 go_wp2
 go_ret
 exact ⟨a2,c2,rfl,by simpa using hown,hb2⟩

set_option maxRecDepth 100000 in
set_option maxHeartbeats 1000000 in
theorem cloneTxn_any (i s q:Int) (b off cap:Nat) (zs:List ActD) (w:World) (h:ActRow w (some ⟨b,off,none⟩) zs) (h0:0 < zs.length) (hl:zs.length≤1048576) :
  Calls Tryz.prog 126 #[.agg #[.int .i64 i,.int .i64 s,.int .i64 q,.slice (some ⟨b,off,none⟩) zs.length cap]] w fun e w' => ∃ a c,e=.returned (.agg #[.int .i64 i,.int .i64 s,.int .i64 q,.slice a zs.length c]) ∧
   w'.ownsRow w.heap.size 145 3 (.slice a zs.length c) zs.length (actCells zs)∧Below w.heap.size w w' := by
 have hb1:Below w.heap.size w ((w.alloc (.cells #[.int .i64 i,.int .i64 s,.int .i64 q,.slice (some ⟨b,off,none⟩) zs.length cap] 39)).alloc (.cells #[.int .i64 0,.int .i64 0,.int .i64 0,.slice none 0 0] 39)):=by go_grown
 have B1:=(Blk.new w 39 #[.int .i64 i,.int .i64 s,.int .i64 q,.slice (some ⟨b,off,none⟩) zs.length cap]).below (w' := (w.alloc (.cells #[.int .i64 i,.int .i64 s,.int .i64 q,.slice (some ⟨b,off,none⟩) zs.length cap] 39)).alloc (.cells #[.int .i64 0,.int .i64 0,.int .i64 0,.slice none 0 0] 39)) (by go_grown)
 have B2:=Blk.new (w.alloc (.cells #[.int .i64 i,.int .i64 s,.int .i64 q,.slice (some ⟨b,off,none⟩) zs.length cap] 39)) 39 #[.int .i64 0,.int .i64 0,.int .i64 0,.slice none 0 0]
 simp only [World.size_alloc] at B2
 go_enter Tryz.func126,Tryz.ntmps126
 go_wp2_with fail
 generalize (w.alloc (.cells #[.int .i64 i,.int .i64 s,.int .i64 q,.slice (some ⟨b,off,none⟩) zs.length cap] 39)).alloc (.cells #[.int .i64 0,.int .i64 0,.int .i64 0,.slice none 0 0] 39)=W at hb1 B1 B2
 have hltW:=B2.lt
 refine (clone_any b off cap zs W (h.below hb1) h0 hl).mono ?_
 rintro e w2 ⟨a2,c2,rfl,hown,hb⟩
 replace B1:=B1.below hb
 replace B2:=B2.below hb
 have p0:=B1.cell 0 _ rfl
 have p1:=B1.cell 1 _ rfl
 have p2:=B1.cell 2 _ rfl
 have p3:=B1.cell 3 _ rfl
 have pf:=B1.frozen 3
 have q0:=B2.cell 0 _ rfl
 have q1:=B2.cell 1 _ rfl
 have q2:=B2.cell 2 _ rfl
 have q3:=B2.cell 3 _ rfl
 have f0:=B2.frozen 0
 have f1:=B2.frozen 1
 have f2:=B2.frozen 2
 have f3:=B2.frozen 3
 clear B1 B2
 go_wp2
 refine bodyPost_ret (v:=.agg #[.int .i64 i,.int .i64 s,.int .i64 q,.slice a2 zs.length c2]) (by simp [results,Tryz.results126,go_sem,q0,q1,q2,q3]) rfl ⟨_,_,rfl,?_,?_⟩
 ·refine own_base (base:=W.heap.size) ?_ (by omega)
  repeat' (refine ownsRow_setCell_below ?_ (by dsimp only;omega) _)
  exact hown
 ·repeat' (refine Below.setCell ?_ (by dsimp only;omega) _)
  exact below_from hb1 hb

end Go.Proofs.YtpmkhnakgeillaaGreatDoor
namespace Go.Proofs.YtpmkhnakgeillaaGreatDoor
open Go.RowKit
set_option maxRecDepth 100000
section
variable {P:Program} {ops:Array Oper} {Q:Exit→Act→World→Prop} {S:World→Prop}
theorem quiet_at (i:Nat) (d:Option Tmp) (v:Value) (fuel:Nat) {F:Nat} {l:Array Bool} {a:Act} {w:World} (hF:F=fuel + 1) (hs:Region.noSelect ops=true)
  (hd:(ops[i]?).map (·.dst)=some d) (hok:okSeg ops [i] l=true) (hw:(ops[i]?).map (fun o=>Region.wanted o (yielded ops a.tmps))=some true)
  (hrun:∀ u,S u→(ops[i]?).map (fun o=>(execOp a.eval o).run P u)=some (.ok (.value v) u)) (hS:S w)
  (h:wpAnyH P .any ops (NoPanic Q) S fuel (upTo [i] l) (a.put d v) w):wpAnyH P .any ops (NoPanic Q) S F l a w:=by
 subst hF
 cases ho:ops[i]? with
 | none=>rw [ho] at hd;simp at hd
 | some o=>
  rw [ho] at hd hw hrun
  simp only [Option.map_some,Option.some.injEq] at hd hw hrun
  subst hd
  simp only [okSeg,Bool.and_eq_true,Bool.and_true] at hok
  exact wpAnyH_take (i:=i) (oi:=o) (v:=v) ho hs hok.1 hok.2 (fun c a w=>noPanic_put c a _ _ w) (Or.inl ⟨hw,fun u hu=>hrun u hu⟩) hS h

/-- One operation, walked as a list of one. -/
theorem op_one {K:Act→World→Prop} (i:Nat) (o:Oper) {a:Act} {w:World} (ho:ops[i]? = some o) (h:wpList P ops (ThenGo Q K) [o] a w):wpOp P ops (NoPanic Q) i K a w:=by
 unfold wpOp
 simp only [ho]
 simp only [wpList] at h
 split at h
 ·rename_i hw
  rw [if_pos hw]
  rcases h with h | ⟨h1,h2⟩
  ·left
   unfold Oper.wp at h ⊢
   revert h
   generalize (execOp a.eval o).run P w=r
   intro h
   unfold Oper.upon at h ⊢
   split at h
   ·exact h
   ·exact h
   ·exact h
   ·refine Calls.mono h fun e w' he=>?_
    cases e <;> exact he
   ·exact h
   ·exact h
   ·exact h
  ·exact Or.inr ⟨h1,h2⟩
 ·rename_i hw
  rw [if_neg hw]
  exact h

/-- One call, by its contract. -/
theorem op_call {K:Act→World→Prop} (i:Nat) (d:Option Tmp) (f:Nat) (args:Array Value) {a:Act} {w:World}
  (hd:(ops[i]?).map (·.dst)=some d) (hw:(ops[i]?).map (fun o=>Region.wanted o (yielded ops a.tmps))=some true)
  (hrun:(ops[i]?).map (fun o=>(execOp a.eval o).run P w)=some (.ok (.enter f args) w))
  (hc:Calls P f args w (fun e w' => ∃ v,e=.returned v∧K (a.put d v) w')):wpOp P ops (NoPanic Q) i K a w:=by
 cases ho:ops[i]? with
 | none=>rw [ho] at hd;simp at hd
 | some o=>
  rw [ho] at hd hw hrun
  simp only [Option.map_some,Option.some.injEq] at hd hw hrun
  subst hd
  unfold wpOp
  simp only [ho,hw,if_true]
  refine .inl ?_
  unfold Oper.wp
  rw [hrun]
  simp only [Oper.upon]
  refine hc.mono fun e w' he=>?_
  obtain ⟨v,rfl,h1⟩:=he
  exact h1

/-- Two may come up: each of them first. -/
theorem two_at (i j:Nat) (fuel:Nat) {F:Nat} {l:Array Bool} {a:Act} {w:World} (hF:F=fuel + 1) (hr:Region.ready .any ops l=[i,j])
  (hi:wpOp P ops (NoPanic Q) i (fun a' w' => S w' ∧ wpAnyH P .any ops (NoPanic Q) S fuel (upTo [i] l) a' w') a w)
  (hj:wpOp P ops (NoPanic Q) j (fun a' w' => S w' ∧ wpAnyH P .any ops (NoPanic Q) S fuel (upTo [j] l) a' w') a w):wpAnyH P .any ops (NoPanic Q) S F l a w:=by
 subst hF
 refine wpAnyH_all hr (by simp) (fun k hk=>?_)
 simp only [List.mem_cons,List.not_mem_nil,or_false] at hk
 rcases hk with rfl | rfl
 ·exact hi
 ·exact hj

end
end Go.Proofs.YtpmkhnakgeillaaGreatDoor
namespace Go.Proofs.YtpmkhnakgeillaaGreatDoor
open Go.RowKit
set_option maxRecDepth 100000
/-- The worlds of which p is so. -/
structure KeepP (p:World→Prop) where
 val:World
 isP:p val

section
variable {P:Program} {ops:Array Oper} {Q:Exit→Act→World→Prop} {S:World→Prop} {st:Nat}
/-- Whatever order is picked from here on, and behind every operation S holds, or st has come up. -/
def wpAnyX (P:Program) (ops:Array Oper) (Q:Exit→Act→World→Prop) (S:World→Prop) (st:Nat):Nat→Array Bool→Act→World→Prop
 | 0,listed,a,w=>Region.ready .any ops listed=[]∧Q .normal a w
 | fuel + 1,listed,a,w=>
  (Region.ready .any ops listed=[]→Q .normal a w) ∧
  ∀ i∈Region.ready .any ops listed,wpOp P ops Q i (fun a' w' => ((listed.setIfInBounds i true).getD st true=true∨S w')∧wpAnyX P ops Q S st fuel (listed.setIfInBounds i true) a' w') a w

theorem wpAny_of_X:∀ (fuel:Nat) (listed:Array Bool) (a:Act) (w:World),wpAnyX P ops Q S st fuel listed a w→wpAny P .any ops Q fuel listed a w
 | 0,_,_,_,h=>h
 | fuel + 1,_,_,_,h=>⟨h.1,fun i hi=>wpOp_mono (fun a' w' h' => wpAny_of_X fuel _ a' w' h'.2) (h.2 i hi)⟩

/-- As OrdersHeld's 'wpAnyH_first': besides, st has not come up and waits for i. -/
theorem wpAnyX_first {i:Nat} {oi:Oper} {v:Value} (hi:ops[i]? = some oi) (hsel:∀ (j:Nat) (o:Oper) cs b,ops[j]? = some o→o.op≠.select cs b)
  (hQ:∀ c a w,Q (.panic c) (a.put oi.dst v) w→Q (.panic c) a w) (hist:i≠st) (hst:∀ o,ops[st]? = some o→∃ e∈o.after,Region.binds .any e=true∧e.on=i) :
  ∀ (fuel:Nat) (listed:Array Bool) (a:Act) (w:World),
   (∀ j oj,ops[j]? = some oj→j≠i→listed.getD j true=false→(∀ e∈oj.after,Region.binds .any e=true→e.on≠i)→oi.apart ops oj=true) →
   i∈Region.ready .any ops listed→YieldsIf P ops S oi v a→S w→listed.getD st true=false →
   wpAnyX P ops Q S st fuel (listed.setIfInBounds i true) (a.put oi.dst v) w→wpAnyX P ops Q S st (fuel + 1) listed a w:=by
 intro fuel
 induction fuel with
 | zero=>
  intro listed a w _ hr hy hS hl H
  refine ⟨fun h=>(by rw [h] at hr;cases hr),fun j hj=>?_⟩
  by_cases hji:j=i
  ·subst hji;exact hy.wpOp hi hS ⟨Or.inr hS,H⟩
  ·have:=ready_mono hj hji
   rw [H.1] at this
   cases this
 | succ fuel ih=>
  intro listed a w hfree hr hy hS hl H
  refine ⟨fun h=>(by rw [h] at hr;cases hr),fun j hj=>?_⟩
  by_cases hji:j=i
  ·subst hji;exact hy.wpOp hi hS ⟨Or.inr hS,H⟩
  ·have h1:=H.2 j (ready_mono hj hji)
   obtain ⟨hjun,oj,hoj,hall⟩:=mem_ready.1 hj
   have hnot:∀ e∈oj.after,Region.binds .any e=true→e.on≠i:=fun e he hb heq=>by
    have h1:=hall e he hb
    have h0:=(mem_ready.1 hr).1
    rw [heq] at h1
    rcases Nat.lt_or_ge i listed.size with h' | h'
    ·simp [h'] at h0 h1;rw [h0] at h1;cases h1
    ·simp [Array.getElem?_eq_none h'] at h1
   have hjst:j≠st:=by
    intro e
    subst e
    obtain ⟨e,he,hb,hon⟩:=hst oj hoj
    exact hnot e he hb hon
   have h2:=wpOp_putIf hoj (hfree j oj hoj hji hjun hnot) (fun cs b=>hsel i oi cs b hi) (fun cs b=>hsel j oj cs b hoj) hQ hy h1
   have hfree' : ∀ k ok,ops[k]? = some ok→k≠i→(listed.setIfInBounds j true).getD k true=false →
     (∀ e∈ok.after,Region.binds .any e=true→e.on≠i)→oi.apart ops ok=true:=fun k ok hk hki hun hno=>by
    refine hfree k ok hk hki ?_ hno
    by_cases hjk:j=k
    ·subst hjk;exact hjun
    ·rw [getD_set_ne true hjk] at hun;exact hun
   have hl' : (listed.setIfInBounds j true).getD st true=false:=by rw [getD_set_ne true hjst];exact hl
   refine wpOp_mono (fun a' w' h3=>?_) h2
   have hS' : S w' := by
    rcases h3.2.1 with h4 | h4
    ·rw [getD_set_ne true hjst,getD_set_ne true hist,hl] at h4
     cases h4
    ·exact h4
   refine ⟨Or.inr hS',ih (listed.setIfInBounds j true) a' w' hfree' (ready_mono hr (Ne.symm hji)) h3.1 hS' hl' ?_⟩
   rw [Array.setIfInBounds_comm _ _ hji]
   exact h3.2.2

/-- A post whose word on a panic does not look at the temporaries. -/
def PanTo (Q:Exit→Act→World→Prop) (R:List PanicEntry→World→Prop):Exit→Act→World→Prop
 | .panic c,a,w=>a.defers=[]∧R c w
 | e,a,w=>Q e a w

theorem put_defers_eq (a:Act) (d:Option Tmp) (v:Value):(a.put d v).defers=a.defers:=by cases d <;> rfl

theorem PanTo.put {R:List PanicEntry→World→Prop}:∀ c (a:Act) (d:Option Tmp) (v:Value) w,PanTo Q R (.panic c) (a.put d v) w→PanTo Q R (.panic c) a w:=fun c a d v w h=>⟨(put_defers_eq a d v) ▸ h.1,h.2⟩

variable {R:List PanicEntry→World→Prop}
theorem PanTo.imp (hR:∀ c a w,a.defers=[]→R c w→Q (.panic c) a w):∀ (e:Exit) (a:Act) (w:World),PanTo Q R e a w→Q e a w:=fun e a w h=>by
 cases e <;> first | exact h | exact hR _ _ _ h.1 h.2

theorem beginX {id:Nat} {a:Act} {w:World} (st:Nat) (hm:P.follows .mixedOrders=true) (hR:∀ c a w,a.defers=[]→R c w→Q (.panic c) a w)
  (h:wpAnyX P ops (PanTo Q R) S st ops.size (Array.replicate ops.size false) a w.drew):(Code.region id ops true).wp P Q a w:=
 Code.wp_mono (PanTo.imp hR) (wp_region_any hm (wpAny_of_X _ _ _ _ h))

def waitsB (ops:Array Oper) (st i:Nat):Bool:=match ops[st]? with
 | some o=>o.after.any (fun e=>Region.binds .any e && e.on == i)
 | none=>true

theorem waits_of {i:Nat} (h:waitsB ops st i=true):∀ o,ops[st]? = some o→∃ e∈o.after,Region.binds .any e=true∧e.on=i:=by
 intro o ho
 unfold waitsB at h
 rw [ho] at h
 obtain ⟨k,hk,_,_,hb⟩:=Array.any_iff_exists.1 h
 simp only [Bool.and_eq_true,beq_iff_eq] at hb
 exact ⟨o.after[k],Array.getElem_mem hk,hb⟩

def okSegX (ops:Array Oper) (st:Nat):List Nat→Array Bool→Bool
 | [],_=>true
 | i :: r,l=>Region.free .any ops l i && (Region.ready .any ops l).contains i && (i != st) && waitsB ops st i && !(l.getD st true) && okSegX ops st r (l.setIfInBounds i true)

theorem segX_sound (hs:Region.noSelect ops=true) :
  ∀ (idx:List Nat) (os:List Oper) (l:Array Bool) (a:Act) (w:World) (fuel:Nat),idx.map (ops[·]?)=os.map some→os.all (fun o=>plainB o.op)=true→okSegX ops st idx l=true→S w →
   wpQuiet P ops S (fun a' => wpAnyX P ops (PanTo Q R) S st fuel (upTo idx l) a' w) os a→wpAnyX P ops (PanTo Q R) S st (fuel + idx.length) l a w:=by
 intro idx
 induction idx with
 | nil=>
  intro os l a w fuel hos _ _ _ h
  cases os with
  | nil=>exact h
  | cons o os=>simp at hos
 | cons i r ih=>
  intro os l a w fuel hos hpl hok hS h
  cases os with
  | nil=>simp at hos
  | cons o os=>
   simp only [List.map_cons,List.cons.injEq] at hos
   simp only [List.all_cons,Bool.and_eq_true] at hpl
   simp only [okSegX,Bool.and_eq_true,bne_iff_ne,ne_eq,Bool.not_eq_true'] at hok
   obtain ⟨⟨⟨⟨⟨hf,hr⟩,hne⟩,hwt⟩,hl⟩,hok'⟩:=hok
   simp only [wpQuiet] at h
   by_cases hw:Region.wanted o (yielded ops a.tmps)=true
   ·rw [if_pos hw] at h
    obtain ⟨v,hv,hk⟩:=h
    refine wpAnyX_first (i:=i) (oi:=o) (v:=v) hos.1 (Region.noSelect_spec hs) (fun c a w h=>PanTo.put c a _ _ w h) hne (waits_of hwt) _ l a w (Region.free_spec hos.1 hf) (by simpa using hr) (Or.inl ⟨hw,fun u hu=>?_⟩) hS hl (ih os _ _ w fuel hos.2 hpl.2 hok' hS hk)
    have hq:=hv u hu
    unfold Oper.quietAt at hq
    cases hrun:(execOp a.eval o).run P u with
    | ok n u' =>
     obtain ⟨x,rfl⟩:=plain_value hpl.1 hrun
     rw [hrun] at hq
     obtain ⟨e1,e2⟩:=hq
     rw [e1,e2]
    | halt x u' =>
     rw [hrun] at hq
     exact hq.elim
   ·rw [if_neg hw] at h
    have hw' : Region.wanted o (yielded ops a.tmps)=false:=by simpa using hw
    exact wpAnyX_first (i:=i) (oi:=o) (v:=undef) hos.1 (Region.noSelect_spec hs) (fun c a w h=>PanTo.put c a _ _ w h) hne (waits_of hwt) _ l a w (Region.free_spec hos.1 hf) (by simpa using hr) (Or.inr ⟨hw',rfl⟩) hS hl (ih os _ _ w fuel hos.2 hpl.2 hok' hS h)

theorem segX (rs:List (Nat × Nat)) (fuel:Nat) {F:Nat} {l:Array Bool} {a:Act} {w:World} (hF:F=fuel + (idxR rs).length) (hs:Region.noSelect ops=true) (hm:(idxR rs).map (ops[·]?)=(pickR ops.toList rs).map some)
  (hp:(pickR ops.toList rs).all (fun o=>plainB o.op)=true) (hok:okSegX ops st (idxR rs) l=true) (hS:S w)
  (h:wpQuiet P ops S (fun a' => wpAnyX P ops (PanTo Q R) S st fuel (upTo (idxR rs) l) a' w) (pickR ops.toList rs) a):wpAnyX P ops (PanTo Q R) S st F l a w:=by
 subst hF
 exact segX_sound hs (idxR rs) _ l a w fuel hm hp hok hS h

/-- A call that alone may come up: it returns, or it panics. -/
theorem callX (i:Nat) (d:Option Tmp) (f:Nat) (args:Array Value) (fuel:Nat) {F:Nat} {l:Array Bool} {a:Act} {w:World} (hF:F=fuel + 1)
  (hd:(ops[i]?).map (·.dst)=some d) (hr:Region.ready .any ops l=[i]) (hw:(ops[i]?).map (fun o=>Region.wanted o (yielded ops a.tmps))=some true)
  (hrun:(ops[i]?).map (fun o=>(execOp a.eval o).run P w)=some (.ok (.enter f args) w))
  (hdf:a.defers=[]) (hc:Calls P f args w (fun e w' => (∃ v,e=.returned v∧S w' ∧ wpAnyX P ops (PanTo Q R) S st fuel (upTo [i] l) (a.put d v) w')∨∃ c,e=.panicked c∧R c w')):wpAnyX P ops (PanTo Q R) S st F l a w:=by
 subst hF
 cases ho:ops[i]? with
 | none=>rw [ho] at hd;simp at hd
 | some o=>
  rw [ho] at hd hw hrun
  simp only [Option.map_some,Option.some.injEq] at hd hw hrun
  subst hd
  refine ⟨fun h0=>(by rw [hr] at h0;cases h0),fun j hj=>?_⟩
  rw [hr] at hj
  simp only [List.mem_singleton] at hj
  subst hj
  unfold wpOp
  simp only [ho,hw,if_true]
  refine .inl ?_
  unfold Oper.wp
  rw [hrun]
  simp only [Oper.upon]
  refine hc.mono fun e w' he=>?_
  rcases he with ⟨v,rfl,h1,h2⟩ | ⟨c,rfl,h1⟩
  ·exact ⟨Or.inr h1,h2⟩
  ·exact ⟨hdf,h1⟩

def ThenX (Q:Exit→Act→World→Prop) (R:List PanicEntry→World→Prop) (K:Act→World→Prop):Exit→Act→World→Prop
 | .normal,a,w=>K a w
 | e,a,w=>PanTo Q R e a w

theorem ThenX.to {K:Act→World→Prop} {a:Act} {w:World} (h:K a w):ThenX Q R K .normal a w:=h

theorem oneX (i:Nat) (o:Oper) (fuel:Nat) {F:Nat} {l:Array Bool} {a:Act} {w:World} (hF:F=fuel + 1) (ho:ops[i]? = some o) (hr:Region.ready .any ops l=[i])
  (h:wpList P ops (ThenX Q R (fun a' w' => ((upTo [i] l).getD st true=true∨S w')∧wpAnyX P ops (PanTo Q R) S st fuel (upTo [i] l) a' w')) [o] a w):wpAnyX P ops (PanTo Q R) S st F l a w:=by
 subst hF
 refine ⟨fun h0=>(by rw [hr] at h0;cases h0),fun j hj=>?_⟩
 rw [hr] at hj
 simp only [List.mem_singleton] at hj
 subst hj
 unfold wpOp
 simp only [ho]
 simp only [wpList] at h
 split at h
 ·rename_i hw
  rw [if_pos hw]
  rcases h with h | ⟨h1,h2⟩
  ·left
   unfold Oper.wp at h ⊢
   revert h
   generalize (execOp a.eval o).run P w=r
   intro h
   unfold Oper.upon at h ⊢
   split at h
   ·exact h
   ·exact h
   ·exact h
   ·refine Calls.mono h fun e w' he=>?_
    cases e <;> exact he
   ·exact h
   ·exact h
   ·exact h
  ·exact Or.inr ⟨h1,h2⟩
 ·rename_i hw
  rw [if_neg hw]
  exact h

theorem endX {F:Nat} {l:Array Bool} {a:Act} {w:World} (hr:Region.ready .any ops l=[]) (h:Q .normal a w):wpAnyX P ops (PanTo Q R) S st F l a w:=by
 cases F with
 | zero=>exact ⟨hr,h⟩
 | succ F=>exact ⟨fun _=>h,by rw [hr];simp⟩

end
end Go.Proofs.YtpmkhnakgeillaaGreatDoor
namespace Go.Proofs.YtpmkhnakgeillaaGreatDoor
open Go.RowKit
open Go.BigFrame
set_option maxRecDepth 100000
def unF1 (x:UndoD):Int:=
 if inW x.key 1 20=false∨inW x.val (-20000) 20000=false then 3 else if x.was=false∧x.val≠0 then 1 else 0

end Go.Proofs.YtpmkhnakgeillaaGreatDoor
namespace Go.Proofs.YtpmkhnakgeillaaGreatDoor
open Go.RowKit
open Go.BigFrame
set_option maxRecDepth 100000
/-- A list of undos, and where it lies. -/
structure USP where
 d:List UndoD
 a:Option Addr
 cap:Nat

def USP.sl (p:USP):Value:=.slice p.a p.d.length p.cap

def usCells (ps:List USP):List Value:=ps.map USP.sl

def uspNo:USP:=⟨[],none,0⟩

theorem usCells_length (ps:List USP):(usCells ps).length=ps.length:=by simp [usCells]

theorem usCells_get (ps:List USP) (i:Nat) (h:i < ps.length):(usCells ps)[i]? = some (ps.getD i uspNo).sl:=by simp [usCells,List.getD,h]

/-- v is a slice that reads as these lists. -/
def UssAt (w:World) (v:Value) (ds:List (List UndoD)):Prop:=
 ∃ a cap ps,v=.slice a ds.length cap∧ps.map USP.d=ds∧Lies w a (usCells ps)∧∀ p∈ps,UndoRow w p.a p.d

theorem UssAt.below {w w' : World} {v:Value} {ds:List (List UndoD)} (h:UssAt w v ds) (hb:Below w.heap.size w w'):UssAt w' v ds:=by
 obtain ⟨a,cap,ps,e,hd,hL,hA⟩:=h
 exact ⟨a,cap,ps,e,hd,hL.below hb,fun p hp=>(hA p hp).below hb⟩

theorem UssAt.shape {w:World} {v:Value} {ds:List (List UndoD)} (h:UssAt w v ds):∃ a cap,v=.slice a ds.length cap:=by
 obtain ⟨a,cap,_,e,_⟩:=h
 exact ⟨a,cap,e⟩

theorem UssAt.at {w:World} {a:Option Addr} {n cap:Nat} {ds:List (List UndoD)} (h:UssAt w (.slice a n cap) ds) (i:Nat) (hi:i < ds.length) :
  ∃ b off aa cc,a=some ⟨b,off,none⟩∧b < w.heap.size∧w.cell? ⟨b,off + i,none⟩=some (.slice aa (ds.getD i []).length cc)∧UndoRow w aa (ds.getD i []):=by
 obtain ⟨a',cap',ps,e,hd,hL,hA⟩:=h
 simp only [Value.slice.injEq] at e
 obtain ⟨rfl,_,_⟩:=e
 have hl:ps.length=ds.length:=by rw [← hd];simp
 have h1:=usCells_get ps i (by omega)
 have hp:(ps.getD i uspNo).d=ds.getD i []:=by
  rw [← hd]
  simp [List.getD,show i < ps.length by omega]
 have hm:ps.getD i uspNo∈ps:=by simp [List.getD,show i < ps.length by omega]
 rcases hL with h | ⟨b,off,ha,hlt,hc⟩
 ·have:=usCells_length ps
  rw [h] at this
  simp at this
  omega
 ·have hAA:=hA _ hm
  rw [hp] at hAA
  refine ⟨b,off,(ps.getD i uspNo).a,(ps.getD i uspNo).cap,ha,hlt,?_,hAA⟩
  rw [hc _ _ h1]
  simp only [USP.sl,hp]

/-- v is a slice of lists, all of whose memory lies in blocks from lo up to hi, and is its own. -/
def OwnUss (lo hi:Nat) (w:World) (v:Value) (ds:List (List UndoD)):Prop:=
 ∃ g cap ps,v=.slice (some ⟨g,0,none⟩) ds.length cap∧g < hi∧ps.map USP.d=ds∧w.ownsRow lo 161 1 (.slice (some ⟨g,0,none⟩) ds.length cap) ds.length (usCells ps) ∧
  ∀ p∈ps,w.ownsRow lo 216 3 p.sl p.d.length (undoCells p.d)∧∀ k,p.sl.ownBlock=some k→k < hi∧k≠g

theorem OwnUss.row {lo hi:Nat} {w:World} {v:Value} {ds:List (List UndoD)} (h:OwnUss lo hi w v ds):UssAt w v ds:=by
 obtain ⟨g,cap,ps,e,_,hd,ho,hp⟩:=h
 exact ⟨_,cap,ps,e,hd,Lies.own ho,fun p hm=>Lies.own (hp p hm).1⟩

theorem OwnUss.below {lo hi:Nat} {w w' : World} {v:Value} {ds:List (List UndoD)} (h:OwnUss lo hi w v ds) (hb:Below w.heap.size w w'):OwnUss lo hi w' v ds:=by
 obtain ⟨g,cap,ps,e,hg,hd,ho,hp⟩:=h
 exact ⟨g,cap,ps,e,hg,hd,own_below ho hb,fun p hm=>⟨own_below (hp p hm).1 hb,(hp p hm).2⟩⟩

theorem OwnUss.only {lo hi lo' hi' : Nat} {w w' : World} {v:Value} {ds:List (List UndoD)} (h:OwnUss lo hi w v ds) (ho:Only lo' hi' w w') (hh:hi' ≤ lo):OwnUss lo hi w' v ds:=by
 obtain ⟨g,cap,ps,e,hg,hd,o,hp⟩:=h
 exact ⟨g,cap,ps,e,hg,hd,own_only o ho hh,fun p hm=>⟨own_only (hp p hm).1 ho hh,(hp p hm).2⟩⟩

end Go.Proofs.YtpmkhnakgeillaaGreatDoor
namespace Go.Proofs.YtpmkhnakgeillaaGreatDoor
open Go.RowKit
set_option maxRecDepth 100000
/-- No two of the three lie in one block. -/
structure Apart3 (s1 s2 s3:Value):Prop where
 a12:s1.ownBlock=none∨s1.ownBlock≠s2.ownBlock
 a13:s1.ownBlock=none∨s1.ownBlock≠s3.ownBlock
 a23:s2.ownBlock=none∨s2.ownBlock≠s3.ownBlock

theorem ne_swap {s t:Value} (h:s.ownBlock=none∨s.ownBlock≠t.ownBlock):t.ownBlock=none∨t.ownBlock≠s.ownBlock:=by
 rcases h with h | h
 ·cases ht:t.ownBlock with
  | none=>exact Or.inl rfl
  | some g=>right;rw [h];simp
 ·exact Or.inr (fun e=>h e.symm)

structure OwnA (lo hi:Nat) (w:World) (s1 s2 s3:Value) (cs vs:List Int) (ys:List ItemD):Prop where
 o1:OwnS 2 1 lo hi w s1 cs.length (cs.map (Value.int .i64))
 o2:OwnS 2 1 lo hi w s2 vs.length (vs.map (Value.int .i64))
 o3:OwnS 119 2 lo hi w s3 ys.length (itemCells ys)
 ap:Apart3 s1 s2 s3

/-- The three lists read so. -/
structure RowA (w:World) (a1 a2 a3:Option Addr) (cs vs:List Int) (ys:List ItemD):Prop where
 r1:Row .i64 w a1 cs
 r2:Row .i64 w a2 vs
 r3:ItemRow w a3 ys

theorem OwnA.below {lo hi:Nat} {w w' : World} {s1 s2 s3:Value} {cs vs:List Int} {ys:List ItemD} (h:OwnA lo hi w s1 s2 s3 cs vs ys) (hb:Below w.heap.size w w'):OwnA lo hi w' s1 s2 s3 cs vs ys:=⟨h.o1.below hb,h.o2.below hb,h.o3.below hb,h.ap⟩

theorem OwnA.only {lo hi lo' hi' : Nat} {w w' : World} {s1 s2 s3:Value} {cs vs:List Int} {ys:List ItemD} (h:OwnA lo hi w s1 s2 s3 cs vs ys) (ho:Only lo' hi' w w') (hh:hi' ≤ lo):OwnA lo hi w' s1 s2 s3 cs vs ys:=⟨h.o1.only ho hh,h.o2.only ho hh,h.o3.only ho hh,h.ap⟩

theorem OwnA.row {lo hi c1 c2 c3:Nat} {w:World} {a1 a2 a3:Option Addr} {cs vs:List Int} {ys:List ItemD} (h:OwnA lo hi w (.slice a1 cs.length c1) (.slice a2 vs.length c2) (.slice a3 ys.length c3) cs vs ys):RowA w a1 a2 a3 cs vs ys:=⟨Row.own h.o1.1,Row.own h.o2.1,Lies.own h.o3.1⟩

theorem RowA.below {w w' : World} {a1 a2 a3:Option Addr} {cs vs:List Int} {ys:List ItemD} (h:RowA w a1 a2 a3 cs vs ys) (hb:Below w.heap.size w w'):RowA w' a1 a2 a3 cs vs ys:=⟨h.r1.below hb,h.r2.below hb,h.r3.below hb⟩

/-- The three lists hold their marks. -/
structure MarkA (w:World) (a1 a2 a3:Option Addr) (n1 n2 n3:Nat):Prop where
 r1:Row .i64 w a1 (marks .i64 1 n1)
 r2:Row .i64 w a2 (marks .i64 (1 + (n1:Int)) n2)
 r3:ItemRow w a3 (itemMarks (1 + (n1:Int) + (n2:Int)) n3)

theorem MarkA.below {w w' : World} {a1 a2 a3:Option Addr} {n1 n2 n3:Nat} (h:MarkA w a1 a2 a3 n1 n2 n3) (hb:Below w.heap.size w w'):MarkA w' a1 a2 a3 n1 n2 n3:=⟨h.r1.below hb,h.r2.below hb,h.r3.below hb⟩

end Go.Proofs.YtpmkhnakgeillaaGreatDoor
namespace Go.Proofs.YtpmkhnakgeillaaGreatDoor
open Go.RowKit
set_option maxRecDepth 100000
structure OwnU (lo hi:Nat) (w:World) (s1 s2:Value) (us:List UndoD) (ys:List ItemD):Prop where
 o1:OwnS 216 3 lo hi w s1 us.length (undoCells us)
 o2:OwnS 119 2 lo hi w s2 ys.length (itemCells ys)
 ap:s1.ownBlock=none∨s1.ownBlock≠s2.ownBlock

/-- The two lists read so. -/
structure RowU (w:World) (a1 a2:Option Addr) (us:List UndoD) (ys:List ItemD):Prop where
 r1:UndoRow w a1 us
 r2:ItemRow w a2 ys

theorem OwnU.below {lo hi:Nat} {w w' : World} {s1 s2:Value} {us:List UndoD} {ys:List ItemD} (h:OwnU lo hi w s1 s2 us ys) (hb:Below w.heap.size w w'):OwnU lo hi w' s1 s2 us ys:=⟨h.o1.below hb,h.o2.below hb,h.ap⟩

theorem OwnU.only {lo hi lo' hi' : Nat} {w w' : World} {s1 s2:Value} {us:List UndoD} {ys:List ItemD} (h:OwnU lo hi w s1 s2 us ys) (ho:Only lo' hi' w w') (hh:hi' ≤ lo):OwnU lo hi w' s1 s2 us ys:=⟨h.o1.only ho hh,h.o2.only ho hh,h.ap⟩

theorem OwnU.row {lo hi c1 c2:Nat} {w:World} {a1 a2:Option Addr} {us:List UndoD} {ys:List ItemD} (h:OwnU lo hi w (.slice a1 us.length c1) (.slice a2 ys.length c2) us ys):RowU w a1 a2 us ys:=⟨Lies.own h.o1.1,Lies.own h.o2.1⟩

theorem RowU.below {w w' : World} {a1 a2:Option Addr} {us:List UndoD} {ys:List ItemD} (h:RowU w a1 a2 us ys) (hb:Below w.heap.size w w'):RowU w' a1 a2 us ys:=⟨h.r1.below hb,h.r2.below hb⟩

/-- The two lists hold their marks. -/
structure MarkU (w:World) (a1 a2:Option Addr) (n1 n2:Nat):Prop where
 r1:UndoRow w a1 (undoMarks 1 n1)
 r2:ItemRow w a2 (itemMarks (1 + ((n1 * 3:Nat):Int)) n2)

theorem MarkU.below {w w' : World} {a1 a2:Option Addr} {n1 n2:Nat} (h:MarkU w a1 a2 n1 n2) (hb:Below w.heap.size w w'):MarkU w' a1 a2 n1 n2:=⟨h.r1.below hb,h.r2.below hb⟩

end Go.Proofs.YtpmkhnakgeillaaGreatDoor

/- Texts joined, with what the laws reach alone. -/
import Derived.Test.YtdhdnppbgaikfaaGreatDoorLDAE
import Derived.Test.YtdhdnppbgaikfaaGreatDoorLDAD
set_option linter.unusedVariables false
set_option linter.unusedSimpArgs false
namespace Go.Proofs.YtdhdnppbgaikfaaGreatDoor
open Go.RowKit
set_option maxRecDepth 100000
end Go.Proofs.YtdhdnppbgaikfaaGreatDoor
namespace Go.Proofs.YtdhdnppbgaikfaaGreatDoor
open Go.RowKit
open Go.BigFrame
set_option maxRecDepth 100000
theorem Box4.cells {w:World} {b o:Nat} {x0 x1 x2 x3:Value} (h:Box4 w b o x0 x1 x2 x3):b < w.heap.size:=World.block_lt_of_cell? w ⟨b,o,none⟩ h.c0

end Go.Proofs.YtdhdnppbgaikfaaGreatDoor
namespace Go.Proofs.YtdhdnppbgaikfaaGreatDoor
open Go.RowKit
open Go.BigFrame
set_option maxRecDepth 100000
/-- A box of two cells that may be written. -/
structure Box2 (w:World) (b:Nat) (x y:Value):Prop where
 lt:b < w.heap.size
 c0:w.cell? ⟨b,0,none⟩=some x
 c1:w.cell? ⟨b,1,none⟩=some y
 f0:w.frozen? ⟨b,0,none⟩=false
 f1:w.frozen? ⟨b,1,none⟩=false

theorem Box2.below {w w' : World} {b:Nat} {x y:Value} (h:Box2 w b x y) (hb:Below w.heap.size w w'):Box2 w' b x y:=
 ⟨Nat.lt_of_lt_of_le h.lt hb.size,by rw [hb.cell (p:=⟨b,0,none⟩) h.lt];exact h.c0,by rw [hb.cell (p:=⟨b,1,none⟩) h.lt];exact h.c1,by rw [hb.frozen (p:=⟨b,0,none⟩) h.lt];exact h.f0,by rw [hb.frozen (p:=⟨b,1,none⟩) h.lt];exact h.f1⟩

end Go.Proofs.YtdhdnppbgaikfaaGreatDoor
namespace Go.Proofs.YtdhdnppbgaikfaaGreatDoor
open Go.RowKit
open Go.BigFrame
set_option maxRecDepth 100000
def TxnD.F (d:TxnD):Int:=txnF d.id d.session d.seq d.acts

def allF:List TxnD→Int
 | []=>0
 | d :: r=>if d.F=0 then allF r else d.F

def idsC (ds:List TxnD):Int:=if 60 < ds.length then 2 else allF ds

def idsR (ds:List TxnD):List Int:=if idsC ds=0 then ds.map TxnD.id else []

def idsL (ds:List TxnD) (k:Nat):List Int:=(ds.take k).map TxnD.id

theorem idsL_succ (ds:List TxnD) (k:Nat) (h:k < ds.length):idsL ds (k + 1)=idsL ds k ++ [(ds.getD k txnNo).id]:=by
 have e:ds.getD k txnNo=ds[k]:=by simp [List.getD,h]
 rw [idsL,idsL,List.take_succ_eq_append_getElem h,e]
 simp only [List.map_append,List.map_cons,List.map_nil]

theorem idsL_length (ds:List TxnD) (k:Nat) (h:k≤ds.length):(idsL ds k).length=k:=by simp [idsL];omega

theorem idsR_le (ds:List TxnD):(idsR ds).length≤ds.length:=by
 unfold idsR
 split <;> simp

theorem allF_first (ds:List TxnD):∀ k,(∀ j,j < k→(ds.getD j txnNo).F=0)→k < ds.length→(ds.getD k txnNo).F≠0→allF ds=(ds.getD k txnNo).F:=by
 induction ds with
 | nil=>intro k _ h;simp at h
 | cons x r ih=>
  intro k h0 hk hne
  cases k with
  | zero=>simp [List.getD] at hne ⊢;simp [allF,hne]
  | succ k=>
   have hx:x.F=0:=by simpa [List.getD] using h0 0 (by omega)
   have:=ih k (fun j hj=>by simpa [List.getD] using h0 (j + 1) (by omega)) (by simpa using hk) (by simpa [List.getD] using hne)
   simp only [allF,hx,if_true]
   rw [this]
   simp [List.getD]

theorem allF_none (ds:List TxnD) (h:∀ j,j < ds.length→(ds.getD j txnNo).F=0):allF ds=0:=by
 induction ds with
 | nil=>rfl
 | cons x r ih=>
  have hx:x.F=0:=by simpa [List.getD] using h 0 (by simp)
  simp only [allF,hx,if_true]
  exact ih (fun j hj=>by simpa [List.getD] using h (j + 1) (by simpa using hj))

theorem TxnsAt.box {w:World} {b off i:Nat} {z:TxnD} {aa:Option Addr} {cc:Nat} (h0:w.cell? ⟨b,off + i * 4,none⟩=some (.int .i64 z.id)) (h1:w.cell? ⟨b,off + i * 4 + 1,none⟩=some (.int .i64 z.session)) (h2:w.cell? ⟨b,off + i * 4 + 2,none⟩=some (.int .i64 z.seq))
  (h3:w.cell? ⟨b,off + i * 4 + 3,none⟩=some (.slice aa z.acts.length cc)):Box4 w b (off + i * 4) (.int .i64 z.id) (.int .i64 z.session) (.int .i64 z.seq) (.slice aa z.acts.length cc):=⟨h0,h1,h2,h3⟩

set_option maxHeartbeats 1000000 in
theorem l2Ids_any (v:Value) (ds:List TxnD) (w:World) (h:TxnsAt w v ds) (hl:ds.length≤60) :
  Calls Tryz.prog 80 #[v] w fun e w' => ∃ b c,e=.returned (.slice b (ds.map TxnD.id).length c)∧w'.ownsRow w.heap.size 2 1 (.slice b (ds.map TxnD.id).length c) (ds.map TxnD.id).length ((ds.map TxnD.id).map (Value.int .i64))∧Below w.heap.size w w' := by
 obtain ⟨a,cap,rfl⟩:=h.shape
 obtain ⟨i0,hi,hz0,hz1,hz2⟩:=info_parts infoI64
 go_enter Tryz.func80,Tryz.ntmps80
 go_wp2
 go_loopw [3,4] (fun v j wr=>∃ k:Nat,k≤ds.length∧j=.int .i64 k∧wr.ownsRow w.heap.size 2 1 v (idsL ds k).length ((idsL ds k).map (Value.int .i64))∧Below w.heap.size w wr) (fun _ j _=>ds.length - (intOf j).toNat)
 case atStart=>exact ⟨0,Nat.zero_le _,rfl,by first | exact World.ownsRow_lit w #[] 0 (Nat.le_refl _) (by decide) rfl | (simp [idsL];exact World.ownsRow_lit w #[] 0 (Nat.le_refl _) (by decide) rfl),by go_grown⟩
 case round=>
  obtain ⟨k,hk,rfl,ho,hb⟩:=hrel
  have hsz:=hb.size
  have hkl:(idsL ds k).length≤60:=by rw [idsL_length ds k hk];omega
  obtain ⟨a1,c1,rfl⟩:=own_shape ho
  by_cases hlt:k < ds.length
  ·have hsu:Hid (idsL ds (k + 1)=idsL ds k ++ [(ds.getD k txnNo).id]):=idsL_succ ds k hlt
   obtain ⟨b,off,aa,cc,rfl,hbs,hc0,_⟩:=(h.below hb).at k hlt
   generalize (ds.getD k txnNo).id=z at hc0 hsu
   have hW2:Below w.heap.size wr (wr.alloc (.cells #[.int .i64 z] 2)):=(Below.refl _ _).alloc hsz _
   have ho2:=ho.alloc (.cells #[.int .i64 z] 2)
   go_wp2_with (at_builtin;refine wpList_append_own _ rfl _ _ 26 rfl w.heap.size 2 i0 (.int .i64 0) 1 8 Tryz.underlying26 hi hz0 hz1 hz2 rfl (by decide) _ (idsL ds k).length ((idsL ds k).map (Value.int .i64)) rfl ho2 ⟨wr.heap.size,0,none⟩ 1 1 [.int .i64 z] rfl rfl ?c1 ?c2 ?c3 ?c4 ?c5 ?_)
   all_goals try
    (case c1=>intro j u hj;match j,hj with | 0,hj=>simp at hj;subst hj;simp [Addr.add])
   all_goals try (case c2=>first | rfl | (intro u hu;simp at hu;subst hu;rfl))
   all_goals try (case c3=>unfold maxLen;omega)
   all_goals try (case c4=>omega)
   all_goals try (case c5=>first | omega | (simp;omega))
   intro v' w2 hown hgrow _
   obtain ⟨a2,c2,rfl⟩:=own_shape hown
   have hW3:Below w.heap.size wr w2:=hW2.grown hgrow (by simp;omega) (fun j hj=>(ho.lt j hj).1)
   clear hW2 hgrow ho2 ho
   have R:Hid (w2.ownsRow w.heap.size 2 1 (.slice a2 ((idsL ds k).length + 1) c2) ((idsL ds k).length + 1) ((idsL ds k ++ [z]).map (Value.int .i64))∧Below w.heap.size w w2):=⟨by simpa using hown,hb.trans hW3⟩
   clear hown hW3
   go_wp2
   go_roundw
   case rel=>
    refine ⟨k + 1,by omega,by go_num,?_,R.out.2⟩
    rw [hsu.out]
    simpa using R.out.1
   case measure=>simp [intOf];omega
  ·have hkk:k=ds.length:=by omega
   subst hkk
   have e:idsL ds ds.length=ds.map TxnD.id:=by simp [idsL]
   rw [e] at ho
   clear hkl
   go_wp2
   go_ret
   rw [e]
   exact ⟨_,_,rfl,ho,hb⟩

end Go.Proofs.YtdhdnppbgaikfaaGreatDoor
namespace Go.Proofs.YtdhdnppbgaikfaaGreatDoor
open Go.RowKit
open Go.BigFrame
set_option maxRecDepth 100000
set_option maxRecDepth 100000 in
set_option maxHeartbeats 2000000 in
theorem implIdsOf_any (v:Value) (ds:List TxnD) (w:World) (h:TxnsAt w v ds) (hl:ds.length + sumA ds≤1048576) :
  Calls Tryz.prog 96 #[v] w fun e w' => ∃ b c,e=.returned (.agg #[.int .i64 (idsC ds),.slice b (idsR ds).length c]) ∧
   w'.ownsRow w.heap.size 2 1 (.slice b (idsR ds).length c) (idsR ds).length ((idsR ds).map (Value.int .i64))∧Below w.heap.size w w' := by
 obtain ⟨a,cap,rfl⟩:=h.shape
 by_cases h60:60 < ds.length
 ·have e1:idsC ds=2:=if_pos h60
  have e2:idsR ds=[]:=if_neg (by rw [e1];decide)
  rw [e1,e2]
  clear e1 e2
  go_enter Tryz.func96,Tryz.ntmps96
  go_wp2
  exact bodyPost_ret (v:=.agg #[.int .i64 2,.slice none 0 0]) (by simp [results,Tryz.results96,go_sem]) rfl ⟨_,_,rfl,World.ownsRow_nil _ _ _ _,by go_grown⟩
 ·have e1:idsC ds=allF ds:=if_neg h60
  have hR0:Box2 (w.alloc (.cells #[.int .i64 0,.slice none 0 0] 151)) w.heap.size (.int .i64 0) (.slice none 0 0):=⟨by simp,by simp,by simp,by simp,by simp⟩
  have hb0:Below w.heap.size w (w.alloc (.cells #[.int .i64 0,.slice none 0 0] 151)):=by go_grown
  obtain ⟨i0,hi,hz0,hz1,hz2⟩:=info_parts infoI64
  go_enter Tryz.func96,Tryz.ntmps96
  go_wp2
  generalize w.alloc (.cells #[.int .i64 0,.slice none 0 0] 151)=W at hR0 hb0
  have hsW:=hR0.lt
  go_loopw [3,13] (fun v j wr=>∃ k:Nat,k≤ds.length∧j=.int .i64 k∧wr.ownsRow W.heap.size 2 1 v (idsL ds k).length ((idsL ds k).map (Value.int .i64))∧Below W.heap.size W wr∧Hid (∀ j,j < k→(ds.getD j txnNo).F=0)) (fun _ j _=>ds.length - (intOf j).toNat)
  case atStart=>exact ⟨0,Nat.zero_le _,rfl,World.ownsRow_nil _ _ _ _,Below.refl _ _,fun j hj=>absurd hj (Nat.not_lt_zero _)⟩
  case round=>
   obtain ⟨k,hk,rfl,ho,hb,HA⟩:=hrel
   have hsz:=hb.size
   have hkl:(idsL ds k).length≤60:=by rw [idsL_length ds k hk];omega
   obtain ⟨a1,c1,rfl⟩:=own_shape ho
   by_cases hlt:k < ds.length
   ·obtain ⟨b,off,aa,cc,rfl,hbs,hc0,hc1,hc2,hc3,hA⟩:=(h.below (below_from hb0 hb)).at k hlt
    have hzl:(ds.getD k txnNo).acts.length≤sumA ds:=mem_le_sumA (by simp [List.getD,hlt])
    have hcall:=fun w h=>txnFault_any (ds.getD k txnNo).id (ds.getD k txnNo).session (ds.getD k txnNo).seq aa cc (ds.getD k txnNo).acts w h (by omega)
    change ∀ w h,Calls _ _ _ _ fun e w' => e=.returned (.int .i64 ((ds.getD k txnNo).F))∧_ at hcall
    by_cases hF:(ds.getD k txnNo).F=0
    ·have HB:Hid (∀ j,j < k + 1→(ds.getD j txnNo).F=0):=by
      intro j hj
      by_cases hjk:j=k
      ·subst hjk;exact hF
      ·exact HA.out j (by omega)
     have hsu:Hid (idsL ds (k + 1)=idsL ds k ++ [(ds.getD k txnNo).id]):=idsL_succ ds k hlt
     rw [hF] at hcall
     clear HA hF
     generalize ds.getD k txnNo=z at hc0 hc1 hc2 hc3 hA hcall hsu hzl
     obtain ⟨z0,z1,z2,zs⟩:=z
     dsimp only at hc0 hc1 hc2 hc3 hA hcall hzl
     have hW1:Below wr.heap.size wr (wr.alloc (.cells #[.int .i64 z0,.int .i64 z1,.int .i64 z2,.slice aa zs.length cc] 91)):=by go_grown
     have hBt:=Blk.new wr 91 #[.int .i64 z0,.int .i64 z1,.int .i64 z2,.slice aa zs.length cc]
     go_wp2_with fail
     generalize wr.alloc (.cells #[.int .i64 z0,.int .i64 z1,.int .i64 z2,.slice aa zs.length cc] 91)=w1 at hW1 hBt
     refine (hcall _ (hA.below hW1)).mono ?_
     rintro e w2 ⟨rfl,hb2⟩
     replace hW1:=hW1.trans (hb2.mono hW1.size)
     have p0:=(hBt.below hb2).cell 0 _ rfl
     have ho1:=own_below ho hW1
     have hs2:=hW1.size
     clear hb2 hBt hcall hA hc0 hc1 hc2 hc3
     have hW2:Below W.heap.size w2 (w2.alloc (.cells #[.int .i64 z0] 2)):=(Below.refl _ _).alloc (by omega) _
     have ho2:=ho1.alloc (.cells #[.int .i64 z0] 2)
     go_wp2_with (at_builtin;refine wpList_append_own _ rfl _ _ 26 rfl W.heap.size 2 i0 (.int .i64 0) 1 8 Tryz.underlying26 hi hz0 hz1 hz2 rfl (by decide) _ (idsL ds k).length ((idsL ds k).map (Value.int .i64)) rfl ho2 ⟨w2.heap.size,0,none⟩ 1 1 [.int .i64 z0] rfl rfl ?c1 ?c2 ?c3 ?c4 ?c5 ?_)
     all_goals try
      (case c1=>intro j u hj;match j,hj with | 0,hj=>simp at hj;subst hj;simp [Addr.add])
     all_goals try (case c2=>first | rfl | (intro u hu;simp at hu;subst hu;rfl))
     all_goals try (case c3=>unfold maxLen;omega)
     all_goals try (case c4=>omega)
     all_goals try (case c5=>first | omega | (simp;omega))
     intro v' w3 hown hgrow _
     obtain ⟨a2,c2,rfl⟩:=own_shape hown
     have hW3:Below W.heap.size w2 w3:=hW2.grown hgrow (by simp;omega) (fun j hj=>(ho1.lt j hj).1)
     have R:Hid (w3.ownsRow W.heap.size 2 1 (.slice a2 ((idsL ds k).length + 1) c2) ((idsL ds k).length + 1) ((idsL ds k ++ [z0]).map (Value.int .i64))∧Below W.heap.size W w3):=⟨by simpa using hown,(hb.trans (hW1.mono hsz)).trans hW3⟩
     clear hW2 hgrow ho2 ho hown hW3 ho1 hW1 p0
     go_wp2
     go_roundw
     case rel=>
      refine ⟨k + 1,by omega,by go_num,?_,R.out.2,HB⟩
      rw [hsu.out]
      simpa using R.out.1
     case measure=>simp [intOf];omega
    ·have E:Hid (allF ds=(ds.getD k txnNo).F):=allF_first ds k HA.out hlt hF
     have hne:((ds.getD k txnNo).F != 0)=true:=by simpa using hF
     have E2:Hid (idsR ds=[]):=if_neg (by rw [e1,E.out];exact hF)
     clear HA hF
     generalize (ds.getD k txnNo).F=r at hcall E hne
     generalize ds.getD k txnNo=z at hc0 hc1 hc2 hc3 hA hcall hzl
     obtain ⟨z0,z1,z2,zs⟩:=z
     dsimp only at hc0 hc1 hc2 hc3 hA hcall hzl
     have hW1:Below wr.heap.size wr (wr.alloc (.cells #[.int .i64 z0,.int .i64 z1,.int .i64 z2,.slice aa zs.length cc] 91)):=by go_grown
     have E1:Hid (idsC ds=allF ds):=e1
     clear e1
     go_wp2_with fail
     generalize wr.alloc (.cells #[.int .i64 z0,.int .i64 z1,.int .i64 z2,.slice aa zs.length cc] 91)=w1 at hW1
     refine (hcall _ (hA.below hW1)).mono ?_
     rintro e w2 ⟨rfl,hb2⟩
     obtain ⟨hlt0,q0,q1,g0,g1⟩:=((hR0.below hb).below hW1).below hb2
     clear hcall hA hc0 hc1 hc2 hc3 ho
     go_wp2
     refine bodyPost_ret (v:=.agg #[.int .i64 r,.slice none 0 0]) (by simp [results,Tryz.results96,go_sem,q0,q1]) rfl ?_
     rw [E1.out,E.out,E2.out]
     refine ⟨_,_,rfl,World.ownsRow_nil _ _ _ _,?_⟩
     repeat' (refine Below.setCell ?_ (by dsimp only;omega) _)
     exact below_from (below_from (below_from hb0 hb) hW1) hb2
   ·have hkk:k=ds.length:=by omega
    subst hkk
    have E:Hid (idsC ds=0):=e1.trans (allF_none ds HA.out)
    have E2:Hid (idsR ds=idsL ds ds.length):=by
     show _=_
     rw [show idsR ds=ds.map TxnD.id from if_pos E.out]
     simp [idsL]
    clear HA e1
    obtain ⟨hlt0,q0,q1,g0,g1⟩:=hR0.below hb
    generalize idsL ds ds.length=L at ho E2 hkl
    go_wp2
    refine bodyPost_ret (v:=.agg #[.int .i64 0,.slice a1 L.length c1]) (by simp [results,Tryz.results96,go_sem,q0,q1]) rfl ?_
    rw [E.out,E2.out]
    refine ⟨_,_,rfl,?_,?_⟩
    ·refine own_base (base:=W.heap.size) ?_ hb0.size
     repeat' (refine ownsRow_setCell_below ?_ (by dsimp only;omega) _)
     exact ho
    ·repeat' (refine Below.setCell ?_ (by dsimp only;omega) _)
     exact below_from hb0 hb

end Go.Proofs.YtdhdnppbgaikfaaGreatDoor
namespace Go.Proofs.YtdhdnppbgaikfaaGreatDoor
open Go.RowKit
open Go.BigFrame
set_option maxRecDepth 100000
/-- The first place of x, or the length. -/
def idxN:List Int→Int→Nat
 | [],_=>0
 | y :: r,x=>if y=x then 0 else idxN r x + 1

theorem idxN_at (L:List Int) (x:Int):∀ k,(∀ j,j < k→L.getD j 0≠x)→k < L.length→L.getD k 0=x→idxN L x=k:=by
 induction L with
 | nil=>intro k _ h;simp at h
 | cons y r ih=>
  intro k h0 hk he
  cases k with
  | zero=>simp [List.getD] at he;simp [idxN,he]
  | succ k=>
   have hy:y≠x:=by simpa [List.getD] using h0 0 (by omega)
   simp only [idxN,hy,if_false]
   rw [ih k (fun j hj=>by simpa [List.getD] using h0 (j + 1) (by omega)) (by simpa using hk) (by simpa [List.getD] using he)]

theorem idxN_none (L:List Int) (x:Int) (h:∀ j,j < L.length→L.getD j 0≠x):idxN L x=L.length:=by
 induction L with
 | nil=>rfl
 | cons y r ih=>
  have hy:y≠x:=by simpa [List.getD] using h 0 (by simp)
  simp only [idxN,hy,if_false,List.length_cons]
  rw [ih (fun j hj=>by simpa [List.getD] using h (j + 1) (by simpa using hj))]

def idxI (L:List Int) (x:Int):Int:=if idxN L x < L.length then (idxN L x:Int) else -1

set_option maxRecDepth 100000 in
set_option maxHeartbeats 1000000 in
theorem l1Find_any (a:Option Addr) (cap:Nat) (L:List Int) (x:Int) (w:World) (h:Row .i64 w a L) (hl:L.length≤1048576) :
  Calls Tryz.prog 79 #[.slice a L.length cap,.int .i64 x] w fun e w' => e=.returned (.int .i64 (idxI L x))∧w' = w:=by
 go_enter Tryz.func79,Tryz.ntmps79
 go_wp2
 go_loop [5] (fun j=>∃ k:Nat,k≤L.length∧j=.int .i64 k∧Hid (∀ j,j < k→L.getD j 0≠x)) (fun j=>L.length - (intOf j).toNat)
 case atStart=>exact ⟨0,Nat.zero_le _,rfl,fun j hj=>absurd hj (Nat.not_lt_zero _)⟩
 case round=>
  obtain ⟨k,hk,rfl,HA⟩:=hrel
  by_cases hlt:k < L.length
  ·obtain ⟨b,off,rfl,hbs,hc⟩:=h k hlt
   by_cases he:L.getD k 0=x
   ·have E:Hid (idxI L x=(k:Int)):=by
     show _=_
     rw [idxI,idxN_at L x k HA.out hlt he,if_pos hlt]
    have hee:(L.getD k 0 == x)=true:=by simpa using he
    clear HA he
    generalize L.getD k 0=z at hc hee
    go_wp2
    go_ret
    rw [E.out]
    exact ⟨rfl,rfl⟩
   ·have HB:Hid (∀ j,j < k + 1→L.getD j 0≠x):=by
     intro j hj
     by_cases hjk:j=k
     ·subst hjk;exact he
     ·exact HA.out j (by omega)
    have hee:(L.getD k 0 == x)=false:=by simpa using he
    clear HA he
    generalize L.getD k 0=z at hc hee
    go_wp2
    go_round
    case rel=>exact ⟨k + 1,by omega,by go_num,HB⟩
    case measure=>simp [intOf];omega
  ·have hkl:k=L.length:=by omega
   subst hkl
   have E:Hid (idxI L x=-1):=by
    show _=_
    rw [idxI,idxN_none L x HA.out,if_neg (Nat.lt_irrefl _)]
   clear HA
   go_wp2
   go_ret
   rw [E.out]
   exact ⟨rfl,rfl⟩

theorem acts_oneCell (zs:List ActD):∀ u∈actCells zs,u.oneCell' = true:=by
 intro u hu
 simp only [actCells,List.mem_flatMap,ActD.cells,List.mem_cons,List.not_mem_nil,or_false] at hu
 obtain ⟨z,_,rfl | rfl | rfl⟩:=hu <;> rfl

theorem lies_src {w:World} {b off:Nat} {xs:List Value} (h:Lies w (some ⟨b,off,none⟩) xs):∀ j u,xs[j]? = some u→w.cell? ((⟨b,off,none⟩:Addr).add j)=some u:=by
 intro j u hj
 rcases h with rfl | ⟨b',off',e,_,hc⟩
 ·simp at hj
 ·simp only [Option.some.injEq,Addr.mk.injEq,and_true] at e
  obtain ⟨rfl,rfl⟩:=e
  rw [Addr.add_lit]
  exact hc j u hj

set_option maxRecDepth 100000 in
set_option maxHeartbeats 1000000 in
theorem l2Copy_any (i s q:Int) (b off cap:Nat) (zs:List ActD) (w:World) (h:ActRow w (some ⟨b,off,none⟩) zs) (h0:0 < zs.length) (hl:zs.length≤1048576) :
  Calls Tryz.prog 93 #[.agg #[.int .i64 i,.int .i64 s,.int .i64 q,.slice (some ⟨b,off,none⟩) zs.length cap]] w fun e w' => ∃ a c,e=.returned (.agg #[.int .i64 i,.int .i64 s,.int .i64 q,.slice a zs.length c]) ∧
   w'.ownsRow w.heap.size 131 3 (.slice a zs.length c) zs.length (actCells zs)∧Below w.heap.size w w' := by
 obtain ⟨i0,hi,hz0,hz1,hz2⟩:=info_parts infoAct
 have hs:=lies_src (Lies.below h (w' := ((w.alloc (.cells #[.int .i64 i,.int .i64 s,.int .i64 q,.slice (some ⟨b,off,none⟩) zs.length cap] 91)).alloc (.cells #[.int .i64 0,.int .i64 0,.int .i64 0,.slice none 0 0] 91)).alloc (.cells #[] 131)) (by go_grown))
 have hcl:=actCells_length zs
 have ho:=World.ownsRow_lit (e:=131) (size:=3) ((w.alloc (.cells #[.int .i64 i,.int .i64 s,.int .i64 q,.slice (some ⟨b,off,none⟩) zs.length cap] 91)).alloc (.cells #[.int .i64 0,.int .i64 0,.int .i64 0,.slice none 0 0] 91)) #[] 0 (Nat.le_refl _) (by decide) rfl
 have hb1:Below w.heap.size w (((w.alloc (.cells #[.int .i64 i,.int .i64 s,.int .i64 q,.slice (some ⟨b,off,none⟩) zs.length cap] 91)).alloc (.cells #[.int .i64 0,.int .i64 0,.int .i64 0,.slice none 0 0] 91)).alloc (.cells #[] 131)):=by go_grown
 have B1:=(Blk.new w 91 #[.int .i64 i,.int .i64 s,.int .i64 q,.slice (some ⟨b,off,none⟩) zs.length cap]).below (w' := ((w.alloc (.cells #[.int .i64 i,.int .i64 s,.int .i64 q,.slice (some ⟨b,off,none⟩) zs.length cap] 91)).alloc (.cells #[.int .i64 0,.int .i64 0,.int .i64 0,.slice none 0 0] 91)).alloc (.cells #[] 131)) (by go_grown)
 have B2:=(Blk.new (w.alloc (.cells #[.int .i64 i,.int .i64 s,.int .i64 q,.slice (some ⟨b,off,none⟩) zs.length cap] 91)) 91 #[.int .i64 0,.int .i64 0,.int .i64 0,.slice none 0 0]).below (w' := ((w.alloc (.cells #[.int .i64 i,.int .i64 s,.int .i64 q,.slice (some ⟨b,off,none⟩) zs.length cap] 91)).alloc (.cells #[.int .i64 0,.int .i64 0,.int .i64 0,.slice none 0 0] 91)).alloc (.cells #[] 131)) (by go_grown)
 have HS:Hid (∀ j u,(actCells zs)[j]? = some u→_):=hs
 clear hs
 simp only [World.size_alloc] at B2 ho
 go_enter Tryz.func93,Tryz.ntmps93
 go_wp2_with (at_builtin;refine wpList_append_own _ rfl _ _ 89 rfl (w.heap.size + 1 + 1) 131 i0 (.agg #[.int .i64 0,.int .i64 0,.int .i64 0]) 3 24 Tryz.underlying89 hi hz0 hz1 hz2 rfl (by decide) _ 0 [] rfl ho ⟨b,off,none⟩ zs.length cap (actCells zs) rfl hcl HS.out ?c2 ?c3 ?c4 ?c5 ?_)
 all_goals try (case c2=>exact acts_oneCell zs)
 all_goals try (case c3=>unfold maxLen;omega)
 all_goals try (case c4=>omega)
 all_goals try (case c5=>simp)
 intro v' w2 hown hgrow _
 obtain ⟨a2,c2,rfl⟩:=own_shape hown
 replace B1:=B1.grown hgrow (by simp [Value.ownBlock] <;> omega)
 replace B2:=B2.grown hgrow (by simp [Value.ownBlock] <;> omega)
 have hb2:Below w.heap.size w w2:=hb1.grown hgrow (by simp;omega) (fun k hk=>by simp [Value.ownBlock] at hk;omega)
 have hlt2:=B2.lt
 obtain ⟨p0,p1,p2,p3⟩:=B1.cel4
 have pf:=B1.frozen 3
 obtain ⟨q0,q1,q2,q3⟩:=B2.cel4
 obtain ⟨f0,f1,f2,f3⟩:=B2.frz4
 try simp only [Nat.zero_add] at hown
 clear B1 B2 hgrow HS ho hb1
 go_wp2
 refine bodyPost_ret (v:=.agg #[.int .i64 i,.int .i64 s,.int .i64 q,.slice a2 zs.length c2]) (by simp [results,Tryz.results93,go_sem,q0,q1,q2,q3]) rfl ⟨_,_,rfl,?_,?_⟩
 ·refine own_base (base:=w.heap.size + 1 + 1) ?_ (by omega)
  repeat' (refine ownsRow_setCell_below ?_ (by dsimp only;omega) _)
  simpa using hown
 ·repeat' (refine Below.setCell ?_ (by dsimp only;omega) _)
  exact hb2

set_option maxRecDepth 100000 in
set_option maxHeartbeats 1000000 in
theorem clone_any (b off cap:Nat) (zs:List ActD) (w:World) (h:ActRow w (some ⟨b,off,none⟩) zs) (h0:0 < zs.length) (hl:zs.length≤1048576) :
  Calls Tryz.prog 110 #[.slice (some ⟨b,off,none⟩) zs.length cap] w fun e w' => ∃ a c,e=.returned (.slice a zs.length c) ∧
   w'.ownsRow w.heap.size 131 3 (.slice a zs.length c) zs.length (actCells zs)∧Below w.heap.size w w' := by
 obtain ⟨i0,hi,hz0,hz1,hz2⟩:=info_parts infoAct
 have hs:=lies_src (Lies.below h (w' := w.alloc (.cells #[] 131)) (by go_grown))
 have hcl:=actCells_length zs
 have ho:=World.ownsRow_lit (e:=131) (size:=3) w #[] 0 (Nat.le_refl _) (by decide) rfl
 have HS:Hid (∀ j u,(actCells zs)[j]? = some u→_):=hs
 clear hs
 have hnil:∀ w,(binOp .eql 89 (.slice (some ⟨b,off,none⟩) zs.length cap) (.slice none 0 0)).run Tryz.prog w=.ok (.bool false) w:=fun w=>by first | rfl | kernel_rfl | (simp only [binOp];simp [Op.equal,Op.maxDepth,Op.equalIn,run_underlying Tryz.underlying89])
 go_enter Tryz.func110,Tryz.ntmps110
 go_wp2_with (at_builtin;refine wpList_append_own _ rfl _ _ 89 rfl w.heap.size 131 i0 (.agg #[.int .i64 0,.int .i64 0,.int .i64 0]) 3 24 Tryz.underlying89 hi hz0 hz1 hz2 rfl (by decide) _ 0 [] rfl ho ⟨b,off,none⟩ zs.length cap (actCells zs) rfl hcl HS.out ?c2 ?c3 ?c4 ?c5 ?_)
 all_goals try (case c2=>exact acts_oneCell zs)
 all_goals try (case c3=>unfold maxLen;omega)
 all_goals try (case c4=>omega)
 all_goals try (case c5=>simp)
 intro v' w2 hown hgrow _
 obtain ⟨a2,c2,rfl⟩:=own_shape hown
 have hb2:Below w.heap.size w w2:=((Below.refl _ _).alloc (Nat.le_refl _) _).grown hgrow (by simp) (fun k hk=>by simp [Value.ownBlock] at hk;omega)
 try simp only [Nat.zero_add] at hown
 clear hgrow HS ho
 go_wp2
 go_ret
 exact ⟨a2,c2,rfl,by simpa using hown,hb2⟩

set_option maxRecDepth 100000 in
set_option maxHeartbeats 1000000 in
theorem cloneTxn_any (i s q:Int) (b off cap:Nat) (zs:List ActD) (w:World) (h:ActRow w (some ⟨b,off,none⟩) zs) (h0:0 < zs.length) (hl:zs.length≤1048576) :
  Calls Tryz.prog 87 #[.agg #[.int .i64 i,.int .i64 s,.int .i64 q,.slice (some ⟨b,off,none⟩) zs.length cap]] w fun e w' => ∃ a c,e=.returned (.agg #[.int .i64 i,.int .i64 s,.int .i64 q,.slice a zs.length c]) ∧
   w'.ownsRow w.heap.size 131 3 (.slice a zs.length c) zs.length (actCells zs)∧Below w.heap.size w w' := by
 have hb1:Below w.heap.size w ((w.alloc (.cells #[.int .i64 i,.int .i64 s,.int .i64 q,.slice (some ⟨b,off,none⟩) zs.length cap] 91)).alloc (.cells #[.int .i64 0,.int .i64 0,.int .i64 0,.slice none 0 0] 91)):=by go_grown
 have B1:=(Blk.new w 91 #[.int .i64 i,.int .i64 s,.int .i64 q,.slice (some ⟨b,off,none⟩) zs.length cap]).below (w' := (w.alloc (.cells #[.int .i64 i,.int .i64 s,.int .i64 q,.slice (some ⟨b,off,none⟩) zs.length cap] 91)).alloc (.cells #[.int .i64 0,.int .i64 0,.int .i64 0,.slice none 0 0] 91)) (by go_grown)
 have B2:=Blk.new (w.alloc (.cells #[.int .i64 i,.int .i64 s,.int .i64 q,.slice (some ⟨b,off,none⟩) zs.length cap] 91)) 91 #[.int .i64 0,.int .i64 0,.int .i64 0,.slice none 0 0]
 simp only [World.size_alloc] at B2
 go_enter Tryz.func87,Tryz.ntmps87
 go_wp2_with fail
 generalize (w.alloc (.cells #[.int .i64 i,.int .i64 s,.int .i64 q,.slice (some ⟨b,off,none⟩) zs.length cap] 91)).alloc (.cells #[.int .i64 0,.int .i64 0,.int .i64 0,.slice none 0 0] 91)=W at hb1 B1 B2
 have hltW:=B2.lt
 refine (clone_any b off cap zs W (h.below hb1) h0 hl).mono ?_
 rintro e w2 ⟨a2,c2,rfl,hown,hb⟩
 replace B1:=B1.below hb
 replace B2:=B2.below hb
 obtain ⟨p0,p1,p2,p3⟩:=B1.cel4
 have pf:=B1.frozen 3
 obtain ⟨q0,q1,q2,q3⟩:=B2.cel4
 obtain ⟨f0,f1,f2,f3⟩:=B2.frz4
 clear B1 B2
 go_wp2
 refine bodyPost_ret (v:=.agg #[.int .i64 i,.int .i64 s,.int .i64 q,.slice a2 zs.length c2]) (by simp [results,Tryz.results87,go_sem,q0,q1,q2,q3]) rfl ⟨_,_,rfl,?_,?_⟩
 ·refine own_base (base:=W.heap.size) ?_ (by omega)
  repeat' (refine ownsRow_setCell_below ?_ (by dsimp only;omega) _)
  exact hown
 ·repeat' (refine Below.setCell ?_ (by dsimp only;omega) _)
  exact below_from hb1 hb

end Go.Proofs.YtdhdnppbgaikfaaGreatDoor
namespace Go.Proofs.YtdhdnppbgaikfaaGreatDoor
open Go.RowKit
set_option maxRecDepth 100000
section
variable {P:Program} {ops:Array Oper} {Q:Exit→Act→World→Prop} {S:World→Prop}
theorem quiet_at (i:Nat) (d:Option Tmp) (v:Value) (fuel:Nat) {F:Nat} {l:Array Bool} {a:Act} {w:World} (hF:F=fuel + 1) (hs:Region.noSelect ops=true)
  (hd:(ops[i]?).map (·.dst)=some d) (hok:okSeg ops [i] l=true) (hw:(ops[i]?).map (fun o=>Region.wanted o (yielded ops a.tmps))=some true)
  (hrun:∀ u,S u→(ops[i]?).map (fun o=>(execOp a.eval o).run P u)=some (.ok (.value v) u)) (hS:S w)
  (h:wpAnyH P .any ops (NoPanic Q) S fuel (upTo [i] l) (a.put d v) w):wpAnyH P .any ops (NoPanic Q) S F l a w:=by
 subst hF
 cases ho:ops[i]? with
 | none=>rw [ho] at hd;simp at hd
 | some o=>
  rw [ho] at hd hw hrun
  simp only [Option.map_some,Option.some.injEq] at hd hw hrun
  subst hd
  simp only [okSeg,Bool.and_eq_true,Bool.and_true] at hok
  exact wpAnyH_take (i:=i) (oi:=o) (v:=v) ho hs hok.1 hok.2 (fun c a w=>noPanic_put c a _ _ w) (Or.inl ⟨hw,fun u hu=>hrun u hu⟩) hS h

/-- One operation, walked as a list of one. -/
theorem op_one {K:Act→World→Prop} (i:Nat) (o:Oper) {a:Act} {w:World} (ho:ops[i]? = some o) (h:wpList P ops (ThenGo Q K) [o] a w):wpOp P ops (NoPanic Q) i K a w:=by
 unfold wpOp
 simp only [ho]
 simp only [wpList] at h
 split at h
 ·rename_i hw
  rw [if_pos hw]
  rcases h with h | ⟨h1,h2⟩
  ·left
   unfold Oper.wp at h ⊢
   revert h
   generalize (execOp a.eval o).run P w=r
   intro h
   unfold Oper.upon at h ⊢
   split at h
   ·exact h
   ·exact h
   ·exact h
   ·refine Calls.mono h fun e w' he=>?_
    cases e <;> exact he
   ·exact h
   ·exact h
   ·exact h
  ·exact Or.inr ⟨h1,h2⟩
 ·rename_i hw
  rw [if_neg hw]
  exact h

/-- One call, by its contract. -/
theorem op_call {K:Act→World→Prop} (i:Nat) (d:Option Tmp) (f:Nat) (args:Array Value) {a:Act} {w:World}
  (hd:(ops[i]?).map (·.dst)=some d) (hw:(ops[i]?).map (fun o=>Region.wanted o (yielded ops a.tmps))=some true)
  (hrun:(ops[i]?).map (fun o=>(execOp a.eval o).run P w)=some (.ok (.enter f args) w))
  (hc:Calls P f args w (fun e w' => ∃ v,e=.returned v∧K (a.put d v) w')):wpOp P ops (NoPanic Q) i K a w:=by
 cases ho:ops[i]? with
 | none=>rw [ho] at hd;simp at hd
 | some o=>
  rw [ho] at hd hw hrun
  simp only [Option.map_some,Option.some.injEq] at hd hw hrun
  subst hd
  unfold wpOp
  simp only [ho,hw,if_true]
  refine .inl ?_
  unfold Oper.wp
  rw [hrun]
  simp only [Oper.upon]
  refine hc.mono fun e w' he=>?_
  obtain ⟨v,rfl,h1⟩:=he
  exact h1

/-- Two may come up: each of them first. -/
theorem two_at (i j:Nat) (fuel:Nat) {F:Nat} {l:Array Bool} {a:Act} {w:World} (hF:F=fuel + 1) (hr:Region.ready .any ops l=[i,j])
  (hi:wpOp P ops (NoPanic Q) i (fun a' w' => S w' ∧ wpAnyH P .any ops (NoPanic Q) S fuel (upTo [i] l) a' w') a w)
  (hj:wpOp P ops (NoPanic Q) j (fun a' w' => S w' ∧ wpAnyH P .any ops (NoPanic Q) S fuel (upTo [j] l) a' w') a w):wpAnyH P .any ops (NoPanic Q) S F l a w:=by
 subst hF
 refine wpAnyH_all hr (by simp) (fun k hk=>?_)
 simp only [List.mem_cons,List.not_mem_nil,or_false] at hk
 rcases hk with rfl | rfl
 ·exact hi
 ·exact hj

theorem qta (i:Nat) (d:Option Tmp) (v:Value) (fuel:Nat) {F:Nat} {l:Array Bool} {a:Act} {w:World} (h5:(F,Region.noSelect ops,(ops[i]?).map (·.dst),okSeg ops [i] l,(ops[i]?).map (fun o=>Region.wanted o (yielded ops a.tmps)))=(fuel + 1,true,some d,true,some true))
  (hrun:∀ u,S u→(ops[i]?).map (fun o=>(execOp a.eval o).run P u)=some (.ok (.value v) u)) (hS:S w)
  (h:wpAnyH P .any ops (NoPanic Q) S fuel (upTo [i] l) (a.put d v) w):wpAnyH P .any ops (NoPanic Q) S F l a w:=by
 simp only [Prod.mk.injEq] at h5
 exact quiet_at i d v fuel h5.1 h5.2.1 h5.2.2.1 h5.2.2.2.1 h5.2.2.2.2 hrun hS h

theorem opc {K:Act→World→Prop} (i:Nat) (d:Option Tmp) (f:Nat) (args:Array Value) {a:Act} {w:World}
  (h3:((ops[i]?).map (·.dst),(ops[i]?).map (fun o=>Region.wanted o (yielded ops a.tmps)),(ops[i]?).map (fun o=>(execOp a.eval o).run P w))=(some d,some true,some (.ok (.enter f args) w)))
  (hc:Calls P f args w (fun e w' => ∃ v,e=.returned v∧K (a.put d v) w')):wpOp P ops (NoPanic Q) i K a w:=by
 simp only [Prod.mk.injEq] at h3
 exact op_call i d f args h3.1 h3.2.1 h3.2.2 hc

theorem twa (i j:Nat) (fuel:Nat) {F:Nat} {l:Array Bool} {a:Act} {w:World} (h2:(F,Region.ready .any ops l)=(fuel + 1,[i,j]))
  (hi:wpOp P ops (NoPanic Q) i (fun a' w' => S w' ∧ wpAnyH P .any ops (NoPanic Q) S fuel (upTo [i] l) a' w') a w)
  (hj:wpOp P ops (NoPanic Q) j (fun a' w' => S w' ∧ wpAnyH P .any ops (NoPanic Q) S fuel (upTo [j] l) a' w') a w):wpAnyH P .any ops (NoPanic Q) S F l a w:=by
 simp only [Prod.mk.injEq] at h2
 exact two_at i j fuel h2.1 h2.2 hi hj

end
end Go.Proofs.YtdhdnppbgaikfaaGreatDoor
namespace Go.Proofs.YtdhdnppbgaikfaaGreatDoor
open Go.RowKit
set_option maxRecDepth 100000
/-- The fault of a batch. -/
def batF (ds:List TxnD):Int:=if ds.length < 1∨4 < ds.length then 2 else if allF ds=0 then (if (ds.map TxnD.id).Nodup then 0 else 6) else allF ds

/-- The fault of the rounds, one by one. -/
def rndsF:List RoundE→Int
 | []=>0
 | r :: rs=>if vf r.rep 1=0 then (if vf r.pro 2=0 then rndsF rs else vf r.pro 2) else vf r.rep 1

/-- The fault of the form. -/
def shpF (x:InstE):Int:=
 if x.has=false∧0 < x.batch.length then 1 else
 if x.has=true∧batF x.batch≠0 then batF x.batch else
 if x.rounds.length < 1∨4 < x.rounds.length then 2 else
 if rndsF x.rounds=0 then vf x.dec 1 else rndsF x.rounds

def rnd0:RoundE:=⟨[],[]⟩

def repA (rs:List RoundE) (r n:Nat):Int:=(rs.getD r rnd0).rep.getD n 0

def proA (rs:List RoundE) (r n:Nat):Int:=(rs.getD r rnd0).pro.getD n 0

/-- May it have proposed so? -/
def proR (rs:List RoundE) (r n:Nat):Bool:=(proA rs r n == 3) || ((repA rs r n != 3) && mayP (rs.getD r rnd0).rep (proA rs r n))

/-- May it have reported so (behind the first round)? -/
def befR (rs:List RoundE) (r n:Nat):Bool:=(proA rs (r - 1) n != 3) && mayR (rs.getD (r - 1) rnd0).pro (repA rs r n)

/-- The program's way. -/
def repI (has:Bool) (rs:List RoundE) (r n:Nat):Bool:=if repA rs r n=1∧has=false then false else if repA rs r n=3∨r=0 then true else befR rs r n

/-- The model's way. -/
def sayM (has:Bool) (rs:List RoundE) (r n:Nat):Bool:=proR rs r n && (if r=0∨repA rs r n=3 then true else befR rs r n && (has || (repA rs r n == 0) || decide (0 < cnt 7 (rs.getD (r - 1) rnd0).pro 1)))

/-- A quorum proposed v. -/
def agr (rs:List RoundE) (v:Int):Bool:=rs.any (fun r=>decide (2≤cnt 7 r.pro v))

def endR (rs:List RoundE) (v:Int):Bool:=(v == 3) || agr rs v

def allI (has:Bool) (rs:List RoundE) (r:Nat):Bool:=(repI has rs r 0 && proR rs r 0) && (repI has rs r 1 && proR rs r 1) && (repI has rs r 2 && proR rs r 2)

def allM (has:Bool) (rs:List RoundE) (r:Nat):Bool:=sayM has rs r 0 && sayM has rs r 1 && sayM has rs r 2

def endA (rs:List RoundE) (dec:List Int):Bool:=endR rs (dec.getD 0 0) && endR rs (dec.getD 1 0) && endR rs (dec.getD 2 0)

def rgtI (x:InstE):Bool:=(List.range x.rounds.length).all (allI x.has x.rounds) && endA x.rounds x.dec

def rgtM (x:InstE):Bool:=(x.has || !decide (0 < cnt 7 (x.rounds.getD 0 rnd0).rep 1)) && (List.range x.rounds.length).all (allM x.has x.rounds) && endA x.rounds x.dec

/-- The fault of an instance. -/
def insF (x:InstE):Int:=if shpF x=0 then (if rgtI x then 0 else 10) else shpF x

theorem cnt7 (zs:List Int) (v:Int):cnt 7 zs v=sum3 (zs.getD 0 0 == v) (zs.getD 1 0 == v) (zs.getD 2 0 == v):=by
 unfold cnt
 rw [bit7.1,bit7.2.1,bit7.2.2]
 simp only [Bool.true_and]

theorem pop_vot3 (p q r:Bool):pop3 (vot3 p q r)=sum3 p q r:=by cases p <;> cases q <;> cases r <;> decide +kernel

theorem pop_vot (zs:List Int) (v:Int):pop3 (vot zs v)=cnt 7 zs v:=by
 rw [cnt7]
 exact pop_vot3 _ _ _

theorem sum3_pos (p q r:Bool):(0 < sum3 p q r)↔(p=true∨q=true∨r=true):=by cases p <;> cases q <;> cases r <;> decide

theorem cnt7_pos (zs:List Int) (v:Int):(0 < cnt 7 zs v)↔∃ n,n < 3∧zs.getD n 0=v:=by
 rw [cnt7,sum3_pos]
 simp only [beq_iff_eq]
 constructor
 ·rintro (h | h | h)
  ·exact ⟨0,by omega,h⟩
  ·exact ⟨1,by omega,h⟩
  ·exact ⟨2,by omega,h⟩
 ·rintro ⟨n,hn,h⟩
  have:n=0∨n=1∨n=2:=by omega
  rcases this with rfl | rfl | rfl
  ·exact Or.inl h
  ·exact Or.inr (Or.inl h)
  ·exact Or.inr (Or.inr h)

theorem has_one4:∀ x∈v4,∀ y∈v4,∀ z∈v4,mayP [x,y,z] 1=true→x=1∨y=1∨z=1:=by decide +kernel

/-- Where 1 may be proposed somebody reported 1. -/
theorem mayP_has1 {zs:List Int} (h:mayP zs 1=true):∃ n,n < 3∧zs.getD n 0=1:=by
 by_cases h0:vf zs 1=0
 ·obtain ⟨x,hx,y,hy,z,hz,rfl⟩:=vf_three (Or.inl rfl) h0
  rcases has_one4 x hx y hy z hz h with h | h | h
  ·exact ⟨0,by omega,h⟩
  ·exact ⟨1,by omega,h⟩
  ·exact ⟨2,by omega,h⟩
 ·have:mayP zs 1=false:=any_none _ (fun k=>by
   have hc:(pfC zs k == 0)=false:=by
    rw [beq_eq_false_iff_ne]
    intro e
    exact h0 (pf_zero e).1
   simp only [pB,hc,Bool.false_and]) 8
  rw [this] at h
  exact absurd h (by decide)

theorem rndsF_at {rs:List RoundE} (h:rndsF rs=0) (r:Nat) (hr:r < rs.length):vf (rs.getD r rnd0).rep 1=0∧vf (rs.getD r rnd0).pro 2=0:=by
 induction rs generalizing r with
 | nil=>simp at hr
 | cons q t ih=>
  unfold rndsF at h
  by_cases h1:vf q.rep 1=0
  ·rw [if_pos h1] at h
   by_cases h2:vf q.pro 2=0
   ·rw [if_pos h2] at h
    cases r with
    | zero=>exact ⟨h1,h2⟩
    | succ r=>exact ih h r (by simpa using hr)
   ·rw [if_neg h2] at h
    exact absurd h h2
  ·rw [if_neg h1] at h
   exact absurd h h1

theorem vf_vote {zs:List Int} {most:Int} (h:vf zs most=0) (n:Nat) (hn:n < 3):vOk most (zs.getD n 0)=true:=by
 have hl:=vf_len h
 unfold vf at h
 rw [if_pos hl] at h
 have ha:zs.all (vOk most)=true:=by
  by_cases hx:zs.all (vOk most)=true
  ·exact hx
  ·rw [if_neg hx] at h
   simp at h
 have hg:zs.getD n 0=zs[n]:=by simp [List.getD,show n < zs.length by omega]
 rw [hg]
 exact List.all_eq_true.1 ha _ (List.getElem_mem _)

theorem vOk1 {x:Int} (h:vOk 1 x=true):x=0∨x=1∨x=3:=by
 unfold vOk inB at h
 rw [Bool.or_eq_true,decide_eq_true_eq,beq_iff_eq] at h
 omega

theorem allI_iff (has:Bool) (rs:List RoundE) (r:Nat):allI has rs r=true↔∀ n,n < 3→repI has rs r n=true∧proR rs r n=true:=by
 unfold allI
 simp only [Bool.and_eq_true]
 constructor
 ·rintro ⟨⟨h0,h1⟩,h2⟩ n hn
  have:n=0∨n=1∨n=2:=by omega
  rcases this with rfl | rfl | rfl
  ·exact h0
  ·exact h1
  ·exact h2
 ·intro h
  exact ⟨⟨h 0 (by omega),h 1 (by omega)⟩,h 2 (by omega)⟩

theorem allM_iff (has:Bool) (rs:List RoundE) (r:Nat):allM has rs r=true↔∀ n,n < 3→sayM has rs r n=true:=by
 unfold allM
 simp only [Bool.and_eq_true]
 constructor
 ·rintro ⟨⟨h0,h1⟩,h2⟩ n hn
  have:n=0∨n=1∨n=2:=by omega
  rcases this with rfl | rfl | rfl
  ·exact h0
  ·exact h1
  ·exact h2
 ·intro h
  exact ⟨⟨h 0 (by omega),h 1 (by omega)⟩,h 2 (by omega)⟩

/-- Without a batch nobody reported 1. -/
theorem no_one {rs:List RoundE} (h0:¬ 0 < cnt 7 (rs.getD 0 rnd0).rep 1) (hM:∀ r,r < rs.length→∀ n,n < 3→sayM false rs r n=true):∀ r,r < rs.length→∀ n,n < 3→repA rs r n≠1:=by
 intro r
 induction r with
 | zero=>
  intro _ n hn e
  exact h0 ((cnt7_pos _ _).2 ⟨n,hn,e⟩)
 | succ r ih=>
  intro hr n hn e
  have h:=hM (r + 1) hr n hn
  unfold sayM at h
  rw [Bool.and_eq_true] at h
  have h2:=h.2
  rw [if_neg (by rw [e];omega),Bool.and_eq_true] at h2
  have h3:=h2.2
  rw [e] at h3
  simp only [Bool.false_or,Nat.add_sub_cancel] at h3
  have h4:0 < cnt 7 (rs.getD r rnd0).pro 1:=by simpa using h3
  obtain ⟨m,hm,hp⟩:=(cnt7_pos _ _).1 h4
  have h5:=hM r (by omega) m hm
  unfold sayM at h5
  rw [Bool.and_eq_true] at h5
  have h6:=h5.1
  unfold proR at h6
  have hp' : proA rs r m=1:=hp
  rw [hp'] at h6
  simp only [Bool.or_eq_true,Bool.and_eq_true] at h6
  rcases h6 with h6 | h6
  ·exact absurd h6 (by decide)
  ·obtain ⟨k,hk,hk1⟩:=mayP_has1 h6.2
   exact ih (by omega) k hk hk1

/-- Both ways tell the same. -/
theorem rgt_same {x:InstE} (hr:rndsF x.rounds=0) (hl:0 < x.rounds.length):rgtM x=rgtI x:=by
 unfold rgtM rgtI
 rw [Bool.eq_iff_iff]
 simp only [Bool.and_eq_true,List.all_eq_true,List.mem_range,allI_iff,allM_iff]
 cases hh:x.has with
 | true=>
  simp only [Bool.true_or,true_and]
  refine and_congr_left (fun _=>?_)
  refine forall_congr' (fun r=>forall_congr' (fun hr' => forall_congr' (fun n=>forall_congr' (fun hn=>?_))))
  unfold sayM repI
  rw [if_neg (show ¬ (repA x.rounds r n=1∧true=false) by simp)]
  simp only [Bool.true_or,Bool.and_true,Bool.and_eq_true]
  by_cases hc:repA x.rounds r n=3∨r=0
  ·rw [if_pos hc,if_pos hc.symm]
   exact and_comm
  ·rw [if_neg hc,if_neg (fun e=>hc e.symm)]
   exact and_comm
 | false=>
  simp only [Bool.false_or]
  constructor
  ·rintro ⟨⟨h0,hM⟩,hE⟩
   have h0' : ¬ 0 < cnt 7 (x.rounds.getD 0 rnd0).rep 1:=by simpa using h0
   have hno:=no_one h0' hM
   refine ⟨fun r hr' n hn=>?_,hE⟩
   have h:=hM r hr' n hn
   unfold sayM at h
   rw [Bool.and_eq_true] at h
   refine ⟨?_,h.1⟩
   unfold repI
   rw [if_neg (fun e=>hno r hr' n hn e.1)]
   have h2:=h.2
   by_cases hc:repA x.rounds r n=3∨r=0
   ·rw [if_pos hc]
   ·rw [if_neg hc]
    rw [if_neg (fun e=>hc e.symm),Bool.and_eq_true] at h2
    exact h2.1
  ·rintro ⟨hI,hE⟩
   have hno:∀ r,r < x.rounds.length→∀ n,n < 3→repA x.rounds r n≠1:=by
    intro r hr' n hn e
    have h:=(hI r hr' n hn).1
    unfold repI at h
    rw [if_pos ⟨e,rfl⟩] at h
    exact absurd h (by decide)
   refine ⟨⟨?_,fun r hr' n hn=>?_⟩,hE⟩
   ·have:¬ 0 < cnt 7 (x.rounds.getD 0 rnd0).rep 1:=by
     intro h
     obtain ⟨n,hn,e⟩:=(cnt7_pos _ _).1 h
     exact hno 0 hl n hn e
    simpa using this
   ·obtain ⟨h1,h2⟩:=hI r hr' n hn
    unfold sayM
    rw [Bool.and_eq_true]
    refine ⟨h2,?_⟩
    unfold repI at h1
    rw [if_neg (fun e=>hno r hr' n hn e.1)] at h1
    by_cases hc:repA x.rounds r n=3∨r=0
    ·rw [if_pos hc.symm]
    ·rw [if_neg hc] at h1
     rw [if_neg (fun e=>hc e.symm),Bool.and_eq_true]
     refine ⟨h1,?_⟩
     have hv:=vOk1 (vf_vote (rndsF_at hr r hr').1 n hn)
     have h0:repA x.rounds r n=0:=by
      rcases hv with h | h | h
      ·exact h
      ·exact absurd h (hno r hr' n hn)
      ·exact absurd (Or.inl h) hc
     rw [h0]
     simp

end Go.Proofs.YtdhdnppbgaikfaaGreatDoor
namespace Go.Proofs.YtdhdnppbgaikfaaGreatDoor
open Go.RowKit
open Go.BigFrame
set_option maxRecDepth 100000
theorem intK_row (zs:List Int):intK.row zs=zs.map (Value.int .i64):=by
 induction zs with
 | nil=>rfl
 | cons z r ih=>
  simp only [Kind.row,List.flatMap_cons,List.map_cons] at ih ⊢
  rw [ih]
  rfl

theorem row_of_lies {w:World} {a:Option Addr} {zs:List Int} (h:Lies w a (zs.map (Value.int .i64))):Row .i64 w a zs:=by
 intro i hi
 rcases h with h | ⟨b,off,ha,hlt,hc⟩
 ·have:=congrArg List.length h
  rw [List.length_map,List.length_nil] at this
  omega
 ·exact ⟨b,off,ha,hlt,hc i _ (by simp [List.getD,hi])⟩

theorem lies_of_row {w:World} {a:Option Addr} {zs:List Int} (h:Row .i64 w a zs):Lies w a (zs.map (Value.int .i64)):=by
 by_cases h0:zs=[]
 ·left;simp [h0]
 ·obtain ⟨b,off,ha,hlt,_⟩:=h 0 (List.length_pos_iff.2 h0)
  right
  refine ⟨b,off,ha,hlt,fun i x hx=>?_⟩
  have hi:i < zs.length:=by
   have:=(List.getElem?_eq_some_iff.1 hx).1
   simpa using this
  obtain ⟨b',off',ha',_,hc⟩:=h i hi
  rw [ha] at ha'
  simp only [Option.some.injEq,Addr.mk.injEq,and_true] at ha'
  obtain ⟨rfl,rfl⟩:=ha'
  rw [hc]
  simp [hi] at hx
  rw [← hx]
  simp [List.getD,hi]

theorem intK_at {w:World} {a:Option Addr} {n cap:Nat} {zs:List Int} (h:intK.At w (.slice a n cap) zs):n=zs.length∧Row .i64 w a zs:=by
 obtain ⟨a',c,e,hl,_⟩:=h
 simp only [Value.slice.injEq] at e
 obtain ⟨rfl,rfl,_⟩:=e
 rw [intK_row] at hl
 exact ⟨rfl,row_of_lies hl⟩

theorem actK_at {w:World} {a:Option Addr} {n cap:Nat} {zs:List ActD} (h:actK.At w (.slice a n cap) zs):n=zs.length∧ActRow w a zs:=by
 obtain ⟨a',c,e,hl,_⟩:=h
 simp only [Value.slice.injEq] at e
 obtain ⟨rfl,rfl,_⟩:=e
 exact ⟨rfl,hl⟩

theorem intK_fp (v:Value) (zs:List Int):intK.fp v zs=blk v:=by
 have:zs.flatMap intK.foot=[]:=by rw [List.flatMap_eq_nil_iff];intro _ _;rfl
 simp [Kind.fp,this]

theorem actK_fp (v:Value) (zs:List ActD):actK.fp v zs=blk v:=by
 have:zs.flatMap actK.foot=[]:=by rw [List.flatMap_eq_nil_iff];intro _ _;rfl
 simp [Kind.fp,this]

theorem blk_nodup (v:Value):(blk v).Nodup:=by unfold blk;cases v.ownBlock <;> simp

theorem own_zero {w:World} {base e s n:Nat} {v:Value} {xs:List Value} (h:w.ownsRow base e s v n xs):w.ownsRow 0 e s v n xs∧∀ k∈blk v,base≤k:=⟨own_base h (Nat.zero_le _),fun k hk=>(h.lt k (by simpa [blk] using hk)).1⟩

end Go.Proofs.YtdhdnppbgaikfaaGreatDoor
namespace Go.Proofs.YtdhdnppbgaikfaaGreatDoor
open Go.RowKit
open Go.BigFrame
set_option maxRecDepth 100000
theorem nm_le {P:Type} (nm:P→Nat) (ps:List P) (k:Nat) (h:k < ps.length):nm ps[k]≤nmL nm ps:=by
 have h1:=nmL_succ nm ps k h
 have h2:=nmL_le nm ps (k + 1)
 omega

def TxnQ.n (p:TxnQ):Nat:=p.acts.length

def TxnQ.wf (p:TxnQ):Prop:=p.acts.length≤9223372036854775807

end Go.Proofs.YtdhdnppbgaikfaaGreatDoor
namespace Go.Proofs.YtdhdnppbgaikfaaGreatDoor
open Go.RowKit
open Go.BigFrame
set_option maxRecDepth 100000
def RoundQ.n (p:RoundQ):Nat:=p.rep.length + p.pro.length

def RoundQ.wf (p:RoundQ):Prop:=p.rep.length≤9223372036854775807∧p.pro.length≤9223372036854775807

theorem infoRound:(Tryz.prog.info? 84).map (fun i=>(i.zero,i.size,i.bytes))=some (some (.agg #[.slice none 0 0,.slice none 0 0]),2,48):=by kernel_rfl

end Go.Proofs.YtdhdnppbgaikfaaGreatDoor
namespace Go.Proofs.YtdhdnppbgaikfaaGreatDoor
open Go.RowKit
open Go.BigFrame
set_option maxRecDepth 100000
end Go.Proofs.YtdhdnppbgaikfaaGreatDoor
namespace Go.Proofs.YtdhdnppbgaikfaaGreatDoor
open Go.RowKit
open Go.BigFrame
set_option maxRecDepth 100000
def InstQ.n (p:InstQ):Nat:=(p.batch.length + nmL TxnQ.n p.batch) + (p.rounds.length + nmL RoundQ.n p.rounds) + p.dec.length

def InstQ.wf (p:InstQ):Prop:=(p.batch.length≤9223372036854775807∧∀ q∈p.batch,TxnQ.wf q)∧(p.rounds.length≤9223372036854775807∧∀ q∈p.rounds,RoundQ.wf q)∧p.dec.length≤9223372036854775807

end Go.Proofs.YtdhdnppbgaikfaaGreatDoor

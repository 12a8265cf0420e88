/- Texts joined, with what the laws reach alone. -/
import Derived.Test.YtfdkcbafpiojkaaGreatDoorSGAD
import Derived.Laws.Tables
import Derived.Deep.MidRow
import Derived.Laws.StructEq
set_option linter.unusedVariables false
set_option linter.unusedSimpArgs false
namespace Go.Proofs.YtfdkcbafpiojkaaGreatDoor
open Go.RowKit
open Go.BigFrame
set_option maxRecDepth 100000
theorem acts_oneCell (zs:List ActD):∀ u∈actCells zs,u.oneCell' = true:=by
 intro u hu
 simp only [actCells,List.mem_flatMap,ActD.cells,List.mem_cons,List.not_mem_nil,or_false] at hu
 obtain ⟨z,_,rfl | rfl | rfl⟩:=hu <;> rfl

theorem lies_src {w:World} {b off:Nat} {xs:List Value} (h:Lies w (some ⟨b,off,none⟩) xs):∀ j u,xs[j]? = some u→w.cell? ((⟨b,off,none⟩:Addr).add j)=some u:=by
 intro j u hj
 rcases h with rfl | ⟨b',off',e,_,hc⟩
 ·simp at hj
 ·simp only [Option.some.injEq,Addr.mk.injEq,and_true] at e
  obtain ⟨rfl,rfl⟩:=e
  rw [Addr.add_lit]
  exact hc j u hj

set_option maxRecDepth 100000 in
set_option maxHeartbeats 1000000 in
theorem l2Copy_any (i s q:Int) (b off cap:Nat) (zs:List ActD) (w:World) (h:ActRow w (some ⟨b,off,none⟩) zs) (h0:0 < zs.length) (hl:zs.length≤1048576) :
  Calls Tryz.prog 131 #[.agg #[.int .i64 i,.int .i64 s,.int .i64 q,.slice (some ⟨b,off,none⟩) zs.length cap]] w fun e w' => ∃ a c,e=.returned (.agg #[.int .i64 i,.int .i64 s,.int .i64 q,.slice a zs.length c]) ∧
   w'.ownsRow w.heap.size 146 3 (.slice a zs.length c) zs.length (actCells zs)∧Below w.heap.size w w' := by
 obtain ⟨i0,hi,hz0,hz1,hz2⟩:=info_parts infoAct
 have hs:=lies_src (Lies.below h (w' := ((w.alloc (.cells #[.int .i64 i,.int .i64 s,.int .i64 q,.slice (some ⟨b,off,none⟩) zs.length cap] 49)).alloc (.cells #[.int .i64 0,.int .i64 0,.int .i64 0,.slice none 0 0] 49)).alloc (.cells #[] 146)) (by go_grown))
 have hcl:=actCells_length zs
 have ho:=World.ownsRow_lit (e:=146) (size:=3) ((w.alloc (.cells #[.int .i64 i,.int .i64 s,.int .i64 q,.slice (some ⟨b,off,none⟩) zs.length cap] 49)).alloc (.cells #[.int .i64 0,.int .i64 0,.int .i64 0,.slice none 0 0] 49)) #[] 0 (Nat.le_refl _) (by decide) rfl
 have hb1:Below w.heap.size w (((w.alloc (.cells #[.int .i64 i,.int .i64 s,.int .i64 q,.slice (some ⟨b,off,none⟩) zs.length cap] 49)).alloc (.cells #[.int .i64 0,.int .i64 0,.int .i64 0,.slice none 0 0] 49)).alloc (.cells #[] 146)):=by go_grown
 have B1:=(Blk.new w 49 #[.int .i64 i,.int .i64 s,.int .i64 q,.slice (some ⟨b,off,none⟩) zs.length cap]).below (w' := ((w.alloc (.cells #[.int .i64 i,.int .i64 s,.int .i64 q,.slice (some ⟨b,off,none⟩) zs.length cap] 49)).alloc (.cells #[.int .i64 0,.int .i64 0,.int .i64 0,.slice none 0 0] 49)).alloc (.cells #[] 146)) (by go_grown)
 have B2:=(Blk.new (w.alloc (.cells #[.int .i64 i,.int .i64 s,.int .i64 q,.slice (some ⟨b,off,none⟩) zs.length cap] 49)) 49 #[.int .i64 0,.int .i64 0,.int .i64 0,.slice none 0 0]).below (w' := ((w.alloc (.cells #[.int .i64 i,.int .i64 s,.int .i64 q,.slice (some ⟨b,off,none⟩) zs.length cap] 49)).alloc (.cells #[.int .i64 0,.int .i64 0,.int .i64 0,.slice none 0 0] 49)).alloc (.cells #[] 146)) (by go_grown)
 have HS:Hid (∀ j u,(actCells zs)[j]? = some u→_):=hs
 clear hs
 simp only [World.size_alloc] at B2 ho
 go_enter Tryz.func131,Tryz.ntmps131
 go_wp2_with (at_builtin;refine wpList_append_own _ rfl _ _ 47 rfl (w.heap.size + 1 + 1) 146 i0 (.agg #[.int .i64 0,.int .i64 0,.int .i64 0]) 3 24 Tryz.underlying47 hi hz0 hz1 hz2 rfl (by decide) _ 0 [] rfl ho ⟨b,off,none⟩ zs.length cap (actCells zs) rfl hcl HS.out ?c2 ?c3 ?c4 ?c5 ?_)
 all_goals try (case c2=>exact acts_oneCell zs)
 all_goals try (case c3=>unfold maxLen;omega)
 all_goals try (case c4=>omega)
 all_goals try (case c5=>simp)
 intro v' w2 hown hgrow _
 obtain ⟨a2,c2,rfl⟩:=own_shape hown
 replace B1:=B1.grown hgrow (by simp [Value.ownBlock] <;> omega)
 replace B2:=B2.grown hgrow (by simp [Value.ownBlock] <;> omega)
 have hb2:Below w.heap.size w w2:=hb1.grown hgrow (by simp;omega) (fun k hk=>by simp [Value.ownBlock] at hk;omega)
 have hlt2:=B2.lt
 have p0:=B1.cell 0 _ rfl
 have p1:=B1.cell 1 _ rfl
 have p2:=B1.cell 2 _ rfl
 have p3:=B1.cell 3 _ rfl
 have pf:=B1.frozen 3
 have q0:=B2.cell 0 _ rfl
 have q1:=B2.cell 1 _ rfl
 have q2:=B2.cell 2 _ rfl
 have q3:=B2.cell 3 _ rfl
 have f0:=B2.frozen 0
 have f1:=B2.frozen 1
 have f2:=B2.frozen 2
 have f3:=B2.frozen 3
 try simp only [Nat.zero_add] at hown
 clear B1 B2 hgrow HS ho hb1
 go_wp2
 refine bodyPost_ret (v:=.agg #[.int .i64 i,.int .i64 s,.int .i64 q,.slice a2 zs.length c2]) (by simp [results,Tryz.results131,go_sem,q0,q1,q2,q3]) rfl ⟨_,_,rfl,?_,?_⟩
 ·refine own_base (base:=w.heap.size + 1 + 1) ?_ (by omega)
  repeat' (refine ownsRow_setCell_below ?_ (by dsimp only;omega) _)
  simpa using hown
 ·repeat' (refine Below.setCell ?_ (by dsimp only;omega) _)
  exact hb2

set_option maxRecDepth 100000 in
set_option maxHeartbeats 1000000 in
theorem clone_any (b off cap:Nat) (zs:List ActD) (w:World) (h:ActRow w (some ⟨b,off,none⟩) zs) (h0:0 < zs.length) (hl:zs.length≤1048576) :
  Calls Tryz.prog 187 #[.slice (some ⟨b,off,none⟩) zs.length cap] w fun e w' => ∃ a c,e=.returned (.slice a zs.length c) ∧
   w'.ownsRow w.heap.size 146 3 (.slice a zs.length c) zs.length (actCells zs)∧Below w.heap.size w w' := by
 obtain ⟨i0,hi,hz0,hz1,hz2⟩:=info_parts infoAct
 have hs:=lies_src (Lies.below h (w' := w.alloc (.cells #[] 146)) (by go_grown))
 have hcl:=actCells_length zs
 have ho:=World.ownsRow_lit (e:=146) (size:=3) w #[] 0 (Nat.le_refl _) (by decide) rfl
 have HS:Hid (∀ j u,(actCells zs)[j]? = some u→_):=hs
 clear hs
 have hnil:∀ w,(binOp .eql 47 (.slice (some ⟨b,off,none⟩) zs.length cap) (.slice none 0 0)).run Tryz.prog w=.ok (.bool false) w:=fun w=>by first | rfl | kernel_rfl | (simp only [binOp];simp [Op.equal,Op.maxDepth,Op.equalIn,run_underlying Tryz.underlying47])
 go_enter Tryz.func187,Tryz.ntmps187
 go_wp2_with (at_builtin;refine wpList_append_own _ rfl _ _ 47 rfl w.heap.size 146 i0 (.agg #[.int .i64 0,.int .i64 0,.int .i64 0]) 3 24 Tryz.underlying47 hi hz0 hz1 hz2 rfl (by decide) _ 0 [] rfl ho ⟨b,off,none⟩ zs.length cap (actCells zs) rfl hcl HS.out ?c2 ?c3 ?c4 ?c5 ?_)
 all_goals try (case c2=>exact acts_oneCell zs)
 all_goals try (case c3=>unfold maxLen;omega)
 all_goals try (case c4=>omega)
 all_goals try (case c5=>simp)
 intro v' w2 hown hgrow _
 obtain ⟨a2,c2,rfl⟩:=own_shape hown
 have hb2:Below w.heap.size w w2:=((Below.refl _ _).alloc (Nat.le_refl _) _).grown hgrow (by simp) (fun k hk=>by simp [Value.ownBlock] at hk;omega)
 try simp only [Nat.zero_add] at hown
 clear hgrow HS ho
 go_wp2
 go_ret
 exact ⟨a2,c2,rfl,by simpa using hown,hb2⟩

set_option maxRecDepth 100000 in
set_option maxHeartbeats 1000000 in
theorem cloneTxn_any (i s q:Int) (b off cap:Nat) (zs:List ActD) (w:World) (h:ActRow w (some ⟨b,off,none⟩) zs) (h0:0 < zs.length) (hl:zs.length≤1048576) :
  Calls Tryz.prog 157 #[.agg #[.int .i64 i,.int .i64 s,.int .i64 q,.slice (some ⟨b,off,none⟩) zs.length cap]] w fun e w' => ∃ a c,e=.returned (.agg #[.int .i64 i,.int .i64 s,.int .i64 q,.slice a zs.length c]) ∧
   w'.ownsRow w.heap.size 146 3 (.slice a zs.length c) zs.length (actCells zs)∧Below w.heap.size w w' := by
 have hb1:Below w.heap.size w ((w.alloc (.cells #[.int .i64 i,.int .i64 s,.int .i64 q,.slice (some ⟨b,off,none⟩) zs.length cap] 49)).alloc (.cells #[.int .i64 0,.int .i64 0,.int .i64 0,.slice none 0 0] 49)):=by go_grown
 have B1:=(Blk.new w 49 #[.int .i64 i,.int .i64 s,.int .i64 q,.slice (some ⟨b,off,none⟩) zs.length cap]).below (w' := (w.alloc (.cells #[.int .i64 i,.int .i64 s,.int .i64 q,.slice (some ⟨b,off,none⟩) zs.length cap] 49)).alloc (.cells #[.int .i64 0,.int .i64 0,.int .i64 0,.slice none 0 0] 49)) (by go_grown)
 have B2:=Blk.new (w.alloc (.cells #[.int .i64 i,.int .i64 s,.int .i64 q,.slice (some ⟨b,off,none⟩) zs.length cap] 49)) 49 #[.int .i64 0,.int .i64 0,.int .i64 0,.slice none 0 0]
 simp only [World.size_alloc] at B2
 go_enter Tryz.func157,Tryz.ntmps157
 go_wp2_with fail
 generalize (w.alloc (.cells #[.int .i64 i,.int .i64 s,.int .i64 q,.slice (some ⟨b,off,none⟩) zs.length cap] 49)).alloc (.cells #[.int .i64 0,.int .i64 0,.int .i64 0,.slice none 0 0] 49)=W at hb1 B1 B2
 have hltW:=B2.lt
 refine (clone_any b off cap zs W (h.below hb1) h0 hl).mono ?_
 rintro e w2 ⟨a2,c2,rfl,hown,hb⟩
 replace B1:=B1.below hb
 replace B2:=B2.below hb
 have p0:=B1.cell 0 _ rfl
 have p1:=B1.cell 1 _ rfl
 have p2:=B1.cell 2 _ rfl
 have p3:=B1.cell 3 _ rfl
 have pf:=B1.frozen 3
 have q0:=B2.cell 0 _ rfl
 have q1:=B2.cell 1 _ rfl
 have q2:=B2.cell 2 _ rfl
 have q3:=B2.cell 3 _ rfl
 have f0:=B2.frozen 0
 have f1:=B2.frozen 1
 have f2:=B2.frozen 2
 have f3:=B2.frozen 3
 clear B1 B2
 go_wp2
 refine bodyPost_ret (v:=.agg #[.int .i64 i,.int .i64 s,.int .i64 q,.slice a2 zs.length c2]) (by simp [results,Tryz.results157,go_sem,q0,q1,q2,q3]) rfl ⟨_,_,rfl,?_,?_⟩
 ·refine own_base (base:=W.heap.size) ?_ (by omega)
  repeat' (refine ownsRow_setCell_below ?_ (by dsimp only;omega) _)
  exact hown
 ·repeat' (refine Below.setCell ?_ (by dsimp only;omega) _)
  exact below_from hb1 hb

end Go.Proofs.YtfdkcbafpiojkaaGreatDoor
namespace Go.Proofs.YtfdkcbafpiojkaaGreatDoor
open Go.RowKit
open Go.BigFrame
set_option maxRecDepth 100000
/-- A replica where it lies. -/
structure RepQ where
 vd:Value
 done:List TxnQ
 vb:Value
 base:List ItemD
 vt:Value
 tent:List TxnQ
 vu:Value
 undos:List USQ
 vn:Value
 now:List ItemD

/-- What it tells. -/
structure RepE where
 done:List TxnD
 base:List ItemD
 tent:List TxnD
 undos:List (List UndoD)
 now:List ItemD

def RepQ.e (p:RepQ):RepE:=⟨p.done.map TxnQ.e,p.base,p.tent.map TxnQ.e,p.undos.map USQ.e,p.now⟩

def repK:Kind RepQ where
 ty:=32
 size:=5
 cells p:=[p.vd,p.vb,p.vt,p.vu,p.vn]
 own w p:=txnK.Own w p.vd p.done∧itemK.Own w p.vb p.base∧txnK.Own w p.vt p.tent∧ussK.Own w p.vu p.undos∧itemK.Own w p.vn p.now
 rd w p:=txnK.At w p.vd p.done∧itemK.At w p.vb p.base∧txnK.At w p.vt p.tent∧ussK.At w p.vu p.undos∧itemK.At w p.vn p.now
 foot p:=txnK.fp p.vd p.done ++ (itemK.fp p.vb p.base ++ (txnK.fp p.vt p.tent ++ (ussK.fp p.vu p.undos ++ itemK.fp p.vn p.now)))
 len _:=rfl
 own_rd h:=⟨h.1.at,h.2.1.at,h.2.2.1.at,h.2.2.2.1.at,h.2.2.2.2.at⟩
 own_out h ho hd:=⟨h.1.out ho (fun k hk=>hd k (List.mem_append_left _ hk)),h.2.1.out ho (fun k hk=>hd k (List.mem_append_right _ (List.mem_append_left _ hk))),h.2.2.1.out ho (fun k hk=>hd k (List.mem_append_right _ (List.mem_append_right _ (List.mem_append_left _ hk)))),h.2.2.2.1.out ho (fun k hk=>hd k (List.mem_append_right _ (List.mem_append_right _ (List.mem_append_right _ (List.mem_append_left _ hk))))),h.2.2.2.2.out ho (fun k hk=>hd k (List.mem_append_right _ (List.mem_append_right _ (List.mem_append_right _ (List.mem_append_right _ hk)))))⟩
 own_lt h k hk:=by
  rcases List.mem_append.1 hk with hk | hk
  ·exact h.1.lt k hk
  rcases List.mem_append.1 hk with hk | hk
  ·exact h.2.1.lt k hk
  rcases List.mem_append.1 hk with hk | hk
  ·exact h.2.2.1.lt k hk
  rcases List.mem_append.1 hk with hk | hk
  ·exact h.2.2.2.1.lt k hk
  ·exact h.2.2.2.2.lt k hk
 rd_below h hb:=⟨h.1.below hb,h.2.1.below hb,h.2.2.1.below hb,h.2.2.2.1.below hb,h.2.2.2.2.below hb⟩

def RepQ.n (p:RepQ):Nat:=(p.done.length + nmL TxnQ.n p.done) + p.base.length + (p.tent.length + nmL TxnQ.n p.tent) + (p.undos.length + nmL USQ.n p.undos) + p.now.length

def RepQ.wf (p:RepQ):Prop:=(p.done.length≤9223372036854775807∧∀ q∈p.done,TxnQ.wf q)∧p.base.length≤9223372036854775807∧(p.tent.length≤9223372036854775807∧∀ q∈p.tent,TxnQ.wf q)∧(p.undos.length≤9223372036854775807∧∀ q∈p.undos,USQ.wf q)∧p.now.length≤9223372036854775807

theorem apart9 {A B:List Nat} {m:Nat} (hA:∀ k∈A,k < m) (hB:∀ k∈B,m≤k):∀ a∈A,∀ b∈B,a≠b:=fun a ha b hb e=>by
 have:=hA a ha
 have:=hB b hb
 omega

end Go.Proofs.YtfdkcbafpiojkaaGreatDoor
namespace Go.Proofs.YtfdkcbafpiojkaaGreatDoor
open Go.RowKit
open Go.BigFrame
set_option maxRecDepth 100000
section
variable {ops:Array Oper} {rest:List Oper} {op:Oper} {a:Act} {w:World} {Q:Exit→Act→World→Prop}
/-- A whole block is written over. -/
theorem st_row (hw:Region.wanted op (yielded ops a.tmps)=true) (ty:TypeId) (x y:Operand) (ho:op.op=.store ty x y)
  (g:Nat) (cells:Array Value) (hx:a.eval x=.pointer (some ⟨g,0,none⟩)) (hy:a.eval y=.agg cells)
  (t:TypeId) (old:Array Value) (hg:w.heap[g]? = some (.cells old t (0,0))) (hi:(Tryz.prog.info? ty).map (·.size)=some cells.size)
  (hold:old.size=cells.size) (h1:cells.all (·.oneCell')=true)
  (h:wpList Tryz.prog ops Q rest (a.put op.dst undef) (w.setRow g cells)):wpList Tryz.prog ops Q (op :: rest) a w:=by
 simp only [wpList]
 rw [if_pos hw]
 exact Or.inl (wp_store_row ty x y ho g cells hx hy t old hg hi hold h1 h)

end
theorem Blk.row {w:World} {b:Nat} {t:TypeId} {old:Array Value} (h:Blk w b t old) (cs:Array Value):Blk (w.setRow b cs) b t cs:=setRow_heap w b old cs t _ h

theorem below_row {B:Nat} {a w:World} (h:Below B a w) {g:Nat} (hg:B≤g) (cs:Array Value):Below B a (w.setRow g cs):=
 ⟨h.os,h.tape,h.output,by rw [setRow_size];exact h.size,fun k hk=>(setRow_other w g k cs (by omega)).trans (h.block k hk)⟩

theorem out_row (w:World) (g:Nat) (cs:Array Value):Out [g] w (w.setRow g cs):=
 ⟨rfl,rfl,rfl,by rw [setRow_size];exact Nat.le_refl _,fun k _ hk=>setRow_other w g k cs (by simpa using hk)⟩

end Go.Proofs.YtfdkcbafpiojkaaGreatDoor
namespace Go.Proofs.YtfdkcbafpiojkaaGreatDoor
open Go.RowKit
open Go.BigFrame
set_option maxRecDepth 100000
def sameU (x y:UndoD):Bool:=(x.key == y.key) && ((x.was == y.was) && (x.val == y.val))

def sameUs:List UndoD→List UndoD→Bool
 | [],[]=>true
 | x :: r,y :: s=>sameU x y && sameUs r s
 | _,_=>false

/-- A comparison of two lists, place by place. -/
theorem same_lenUndo {α:Type} {f:α→α→Bool} {g:List α→List α→Bool} (h0:g [] []=true) (h1:∀ x r y s,g (x :: r) (y :: s)=(f x y && g r s)) (h2:∀ x r,g (x :: r) []=false) (h3:∀ y s,g [] (y :: s)=false) :
  ∀ a b,a.length≠b.length→g a b=false:=by
 intro a
 induction a with
 | nil=>intro b h;cases b with | nil=>simp at h | cons y s=>exact h3 y s
 | cons x r ih=>intro b h;cases b with | nil=>exact h2 x r | cons y s=>rw [h1,ih s (by simpa using h)];simp

theorem same_badUndo {α:Type} {f:α→α→Bool} {g:List α→List α→Bool} (d:α) (h1:∀ x r y s,g (x :: r) (y :: s)=(f x y && g r s)) :
  ∀ a b k,a.length=b.length→k < a.length→f (a.getD k d) (b.getD k d)=false→g a b=false:=by
 intro a
 induction a with
 | nil=>intro b k _ h;simp at h
 | cons x r ih=>
  intro b k hl hk hf
  cases b with
  | nil=>simp at hl
  | cons y s=>
   rw [h1]
   cases k with
   | zero=>simp [List.getD] at hf;simp [hf]
   | succ k=>rw [ih s k (by simpa using hl) (by simpa using hk) (by simpa [List.getD] using hf)];simp

theorem same_allUndo {α:Type} {f:α→α→Bool} {g:List α→List α→Bool} (d:α) (h0:g [] []=true) (h1:∀ x r y s,g (x :: r) (y :: s)=(f x y && g r s)) :
  ∀ a b,a.length=b.length→(∀ k,k < a.length→f (a.getD k d) (b.getD k d)=true)→g a b=true:=by
 intro a
 induction a with
 | nil=>intro b hl _;cases b with | nil=>exact h0 | cons y s=>simp at hl
 | cons x r ih=>
  intro b hl hf
  cases b with
  | nil=>simp at hl
  | cons y s=>
   rw [h1,ih s (by simpa using hl) (fun k hk=>by simpa [List.getD] using hf (k + 1) (by simpa using hk))]
   have:=hf 0 (by simp)
   simp [List.getD] at this
   simp [this]

theorem sameUs_refl (xs:List UndoD):sameUs xs xs=true:=by
 induction xs with
 | nil=>rfl
 | cons x r ih=>simp [sameUs,sameU,ih]

theorem eqUndo_run (x0:Int) (x1:Bool) (x2 y0:Int) (y1:Bool) (y2:Int) (w:World):(binOp .neq 185 (.agg #[.int .i64 x0,.bool x1,.int .i64 x2]) (.agg #[.int .i64 y0,.bool y1,.int .i64 y2])).run Tryz.prog w=.ok (.bool (!sameU ⟨x0,x1,x2⟩ ⟨y0,y1,y2⟩)) w:=by
 rw [run_neq_struct,run_equalIn_struct (P:=Tryz.prog) w 9999 185 _ _ (by kernel_rfl) (by kernel_rfl)]
 have c1:Tryz.prog.cellsOf 2=1:=by kernel_rfl
 have c2:Tryz.prog.cellsOf 4=1:=by kernel_rfl
 cases h0:(x0 == y0) <;> cases h1:(x1 == y1) <;> cases h2:(x2 == y2) <;> simp [Program.fieldsOf,Tryz.underlying185,Op.eqFields,go_sem,Tryz.underlying2,Tryz.underlying4,h0,h1,h2,sameU,c1,c2]

set_option maxHeartbeats 2000000 in
theorem equalU_any (a a' : Option Addr) (cap cap' : Nat) (xs ys:List UndoD) (w:World) (h:UndoRow w a xs) (h' : UndoRow w a' ys) (hl:xs.length≤1048576) (hl' : ys.length≤1048576) :
  Calls Tryz.prog 155 #[.slice a xs.length cap,.slice a' ys.length cap'] w fun e w' => e=.returned (.bool (sameUs xs ys))∧Below w.heap.size w w' := by
 by_cases hlen:xs.length=ys.length
 case neg=>
  have E:sameUs xs ys=false:=same_lenUndo (f:=sameU) rfl (fun _ _ _ _=>rfl) (fun _ _=>rfl) (fun _ _=>rfl) xs ys hlen
  rw [E]
  have hd:((xs.length:Int) != (ys.length:Int))=true:=by simp;omega
  go_enter Tryz.func155,Tryz.ntmps155
  go_wp2
  go_ret
  exact ⟨rfl,Below.refl _ _⟩
 case pos=>
  have hd:((xs.length:Int) != (ys.length:Int))=false:=by simp [hlen]
  have HL:Hid (xs.length=ys.length):=hlen
  clear hlen
  go_enter Tryz.func155,Tryz.ntmps155
  go_wp2
  go_loopw [13] (fun i wr=>∃ k m:Nat,k≤xs.length∧i=.int .i64 k∧wr=w.drewN m∧Hid (∀ j,j < k→sameU (xs.getD j undoNo) (ys.getD j undoNo)=true)) (fun i _=>xs.length - (intOf i).toNat)
  case atStart=>exact ⟨0,0,Nat.zero_le _,rfl,rfl,fun j hj=>absurd hj (Nat.not_lt_zero _)⟩
  case round=>
   obtain ⟨k,m,hk,rfl,rfl,HA⟩:=hrel
   by_cases hlt:k < xs.length
   ·have hlt' : k < ys.length:=by have:=HL.out;omega
    obtain ⟨b,off,rfl,hbs,hc0,hc1,hc2⟩:=h.at k hlt
    obtain ⟨b',off',rfl,hbs',hd0,hd1,hd2⟩:=h'.at k hlt'
    cases hs:sameU (xs.getD k undoNo) (ys.getD k undoNo)
    case false=>
     have E:Hid (sameUs xs ys=false):=same_badUndo (f:=sameU) undoNo (fun _ _ _ _=>rfl) xs ys k HL.out hlt hs
     have hr:=eqUndo_run (xs.getD k undoNo).key (xs.getD k undoNo).was (xs.getD k undoNo).val (ys.getD k undoNo).key (ys.getD k undoNo).was (ys.getD k undoNo).val
     rw [show sameU ⟨(xs.getD k undoNo).key,(xs.getD k undoNo).was,(xs.getD k undoNo).val⟩ ⟨(ys.getD k undoNo).key,(ys.getD k undoNo).was,(ys.getD k undoNo).val⟩=false from hs,Bool.not_false] at hr
     clear HA hs
     generalize xs.getD k undoNo=z at hc0 hc1 hc2 hr
     generalize ys.getD k undoNo=z' at hd0 hd1 hd2 hr
     go_wp2
     go_quiet (fail)
     go_wp2
     go_ret
     rw [E.out]
     exact ⟨rfl,below_drewN (below_drewN (Below.refl _ _) _) _⟩
    case true=>
     have HB:Hid (∀ j,j < k + 1→sameU (xs.getD j undoNo) (ys.getD j undoNo)=true):=by
      intro j hj
      by_cases hjk:j=k
      ·subst hjk;exact hs
      ·exact HA.out j (by omega)
     have hr:=eqUndo_run (xs.getD k undoNo).key (xs.getD k undoNo).was (xs.getD k undoNo).val (ys.getD k undoNo).key (ys.getD k undoNo).was (ys.getD k undoNo).val
     rw [show sameU ⟨(xs.getD k undoNo).key,(xs.getD k undoNo).was,(xs.getD k undoNo).val⟩ ⟨(ys.getD k undoNo).key,(ys.getD k undoNo).was,(ys.getD k undoNo).val⟩=true from hs,Bool.not_true] at hr
     clear HA hs
     generalize xs.getD k undoNo=z at hc0 hc1 hc2 hr
     generalize ys.getD k undoNo=z' at hd0 hd1 hd2 hr
     go_wp2
     go_quiet (fail)
     go_wp2
     go_roundw
     case rel=>exact ⟨k + 1,_,by omega,by go_num,rfl,HB⟩
     case measure=>simp [intOf];omega
   ·have E:Hid (sameUs xs ys=true):=same_allUndo (f:=sameU) undoNo rfl (fun _ _ _ _=>rfl) xs ys HL.out (fun j hj=>HA.out j (by omega))
    clear HA
    go_wp2
    go_ret
    rw [E.out]
    exact ⟨rfl,below_drewN (Below.refl _ _) _⟩

set_option maxHeartbeats 2000000 in
theorem specSameUndo_any (a a' : Option Addr) (cap cap' : Nat) (xs ys:List UndoD) (w:World) (h:UndoRow w a xs) (h' : UndoRow w a' ys) (hl:xs.length≤1048576) (hl' : ys.length≤1048576) :
  Calls Tryz.prog 189 #[.slice a xs.length cap,.slice a' ys.length cap'] w fun e w' => e=.returned (.bool (sameUs xs ys))∧Below w.heap.size w w' := by
 by_cases hlen:xs.length=ys.length
 case neg=>
  have E:sameUs xs ys=false:=same_lenUndo (f:=sameU) rfl (fun _ _ _ _=>rfl) (fun _ _=>rfl) (fun _ _=>rfl) xs ys hlen
  rw [E]
  have hd:((xs.length:Int) != (ys.length:Int))=true:=by simp;omega
  go_enter Tryz.func189,Tryz.ntmps189
  go_wp2
  go_ret
  exact ⟨rfl,Below.refl _ _⟩
 case pos=>
  have hd:((xs.length:Int) != (ys.length:Int))=false:=by simp [hlen]
  have HL:Hid (xs.length=ys.length):=hlen
  clear hlen
  go_enter Tryz.func189,Tryz.ntmps189
  go_wp2
  go_loopw [5] (fun i wr=>∃ k m:Nat,k≤xs.length∧i=.int .i64 k∧wr=w.drewN m∧Hid (∀ j,j < k→sameU (xs.getD j undoNo) (ys.getD j undoNo)=true)) (fun i _=>xs.length - (intOf i).toNat)
  case atStart=>exact ⟨0,0,Nat.zero_le _,rfl,rfl,fun j hj=>absurd hj (Nat.not_lt_zero _)⟩
  case round=>
   obtain ⟨k,m,hk,rfl,rfl,HA⟩:=hrel
   by_cases hlt:k < xs.length
   ·have hlt' : k < ys.length:=by have:=HL.out;omega
    obtain ⟨b,off,rfl,hbs,hc0,hc1,hc2⟩:=h.at k hlt
    obtain ⟨b',off',rfl,hbs',hd0,hd1,hd2⟩:=h'.at k hlt'
    cases hs:sameU (xs.getD k undoNo) (ys.getD k undoNo)
    case false=>
     have E:Hid (sameUs xs ys=false):=same_badUndo (f:=sameU) undoNo (fun _ _ _ _=>rfl) xs ys k HL.out hlt hs
     have hr:=eqUndo_run (xs.getD k undoNo).key (xs.getD k undoNo).was (xs.getD k undoNo).val (ys.getD k undoNo).key (ys.getD k undoNo).was (ys.getD k undoNo).val
     rw [show sameU ⟨(xs.getD k undoNo).key,(xs.getD k undoNo).was,(xs.getD k undoNo).val⟩ ⟨(ys.getD k undoNo).key,(ys.getD k undoNo).was,(ys.getD k undoNo).val⟩=false from hs,Bool.not_false] at hr
     clear HA hs
     generalize xs.getD k undoNo=z at hc0 hc1 hc2 hr
     generalize ys.getD k undoNo=z' at hd0 hd1 hd2 hr
     go_wp2
     go_quiet (fail)
     go_wp2
     go_ret
     rw [E.out]
     exact ⟨rfl,below_drewN (below_drewN (Below.refl _ _) _) _⟩
    case true=>
     have HB:Hid (∀ j,j < k + 1→sameU (xs.getD j undoNo) (ys.getD j undoNo)=true):=by
      intro j hj
      by_cases hjk:j=k
      ·subst hjk;exact hs
      ·exact HA.out j (by omega)
     have hr:=eqUndo_run (xs.getD k undoNo).key (xs.getD k undoNo).was (xs.getD k undoNo).val (ys.getD k undoNo).key (ys.getD k undoNo).was (ys.getD k undoNo).val
     rw [show sameU ⟨(xs.getD k undoNo).key,(xs.getD k undoNo).was,(xs.getD k undoNo).val⟩ ⟨(ys.getD k undoNo).key,(ys.getD k undoNo).was,(ys.getD k undoNo).val⟩=true from hs,Bool.not_true] at hr
     clear HA hs
     generalize xs.getD k undoNo=z at hc0 hc1 hc2 hr
     generalize ys.getD k undoNo=z' at hd0 hd1 hd2 hr
     go_wp2
     go_quiet (fail)
     go_wp2
     go_roundw
     case rel=>exact ⟨k + 1,_,by omega,by go_num,rfl,HB⟩
     case measure=>simp [intOf];omega
   ·have E:Hid (sameUs xs ys=true):=same_allUndo (f:=sameU) undoNo rfl (fun _ _ _ _=>rfl) xs ys HL.out (fun j hj=>HA.out j (by omega))
    clear HA
    go_wp2
    go_ret
    rw [E.out]
    exact ⟨rfl,below_drewN (Below.refl _ _) _⟩

set_option maxHeartbeats 1000000 in
theorem implSameUndo_any (a a' : Option Addr) (cap cap' : Nat) (xs ys:List UndoD) (w:World) (h:UndoRow w a xs) (h' : UndoRow w a' ys) (hl:xs.length≤1048576) (hl' : ys.length≤1048576) :
  Calls Tryz.prog 91 #[.slice a xs.length cap,.slice a' ys.length cap'] w fun e w' => e=.returned (.bool (sameUs xs ys))∧Below w.heap.size w w' := by
 have hq:=fun w h h' => equalU_any a a' cap cap' xs ys w h h' hl hl'
 generalize sameUs xs ys=r at hq
 go_enter Tryz.func91,Tryz.ntmps91
 go_wp2_with fail
 refine (hq _ h h').mono ?_
 rintro e w' ⟨rfl,hb⟩
 go_wp2
 go_ret
 exact ⟨rfl,hb⟩

end Go.Proofs.YtfdkcbafpiojkaaGreatDoor
namespace Go.Proofs.YtfdkcbafpiojkaaGreatDoor
open Go.RowKit
open Go.BigFrame
set_option maxRecDepth 100000
def sameI (x y:ItemD):Bool:=(x.key == y.key) && (x.val == y.val)

def sameIs:List ItemD→List ItemD→Bool
 | [],[]=>true
 | x :: r,y :: s=>sameI x y && sameIs r s
 | _,_=>false

/-- A comparison of two lists, place by place. -/
theorem same_lenItem {α:Type} {f:α→α→Bool} {g:List α→List α→Bool} (h0:g [] []=true) (h1:∀ x r y s,g (x :: r) (y :: s)=(f x y && g r s)) (h2:∀ x r,g (x :: r) []=false) (h3:∀ y s,g [] (y :: s)=false) :
  ∀ a b,a.length≠b.length→g a b=false:=by
 intro a
 induction a with
 | nil=>intro b h;cases b with | nil=>simp at h | cons y s=>exact h3 y s
 | cons x r ih=>intro b h;cases b with | nil=>exact h2 x r | cons y s=>rw [h1,ih s (by simpa using h)];simp

theorem same_badItem {α:Type} {f:α→α→Bool} {g:List α→List α→Bool} (d:α) (h1:∀ x r y s,g (x :: r) (y :: s)=(f x y && g r s)) :
  ∀ a b k,a.length=b.length→k < a.length→f (a.getD k d) (b.getD k d)=false→g a b=false:=by
 intro a
 induction a with
 | nil=>intro b k _ h;simp at h
 | cons x r ih=>
  intro b k hl hk hf
  cases b with
  | nil=>simp at hl
  | cons y s=>
   rw [h1]
   cases k with
   | zero=>simp [List.getD] at hf;simp [hf]
   | succ k=>rw [ih s k (by simpa using hl) (by simpa using hk) (by simpa [List.getD] using hf)];simp

theorem same_allItem {α:Type} {f:α→α→Bool} {g:List α→List α→Bool} (d:α) (h0:g [] []=true) (h1:∀ x r y s,g (x :: r) (y :: s)=(f x y && g r s)) :
  ∀ a b,a.length=b.length→(∀ k,k < a.length→f (a.getD k d) (b.getD k d)=true)→g a b=true:=by
 intro a
 induction a with
 | nil=>intro b hl _;cases b with | nil=>exact h0 | cons y s=>simp at hl
 | cons x r ih=>
  intro b hl hf
  cases b with
  | nil=>simp at hl
  | cons y s=>
   rw [h1,ih s (by simpa using hl) (fun k hk=>by simpa [List.getD] using hf (k + 1) (by simpa using hk))]
   have:=hf 0 (by simp)
   simp [List.getD] at this
   simp [this]

theorem sameIs_refl (xs:List ItemD):sameIs xs xs=true:=by
 induction xs with
 | nil=>rfl
 | cons x r ih=>simp [sameIs,sameI,ih]

theorem sameIs_eq {xs ys:List ItemD} (h:sameIs xs ys=true):xs=ys:=by
 induction xs generalizing ys with
 | nil=>cases ys with | nil=>rfl | cons y s=>simp [sameIs] at h
 | cons x r ih=>
  cases ys with
  | nil=>simp [sameIs] at h
  | cons y s=>
   obtain ⟨x0,x1⟩:=x
   obtain ⟨y0,y1⟩:=y
   simp [sameIs,sameI] at h
   rw [ih h.2,h.1.1,h.1.2]

theorem eqItem_run (x0 x1 y0 y1:Int) (w:World):(binOp .neq 134 (.agg #[.int .i64 x0,.int .i64 x1]) (.agg #[.int .i64 y0,.int .i64 y1])).run Tryz.prog w=.ok (.bool (!sameI ⟨x0,x1⟩ ⟨y0,y1⟩)) w:=by
 rw [run_neq_struct,run_equalIn_struct (P:=Tryz.prog) w 9999 134 _ _ (by kernel_rfl) (by kernel_rfl)]
 have c1:Tryz.prog.cellsOf 2=1:=by kernel_rfl
 cases h0:(x0 == y0) <;> cases h1:(x1 == y1) <;> simp [Program.fieldsOf,Tryz.underlying134,Op.eqFields,go_sem,Tryz.underlying2,h0,h1,sameI,c1]

set_option maxHeartbeats 2000000 in
theorem equalI_any (a a' : Option Addr) (cap cap' : Nat) (xs ys:List ItemD) (w:World) (h:ItemRow w a xs) (h' : ItemRow w a' ys) (hl:xs.length≤1048576) (hl' : ys.length≤1048576) :
  Calls Tryz.prog 81 #[.slice a xs.length cap,.slice a' ys.length cap'] w fun e w' => e=.returned (.bool (sameIs xs ys))∧Below w.heap.size w w' := by
 by_cases hlen:xs.length=ys.length
 case neg=>
  have E:sameIs xs ys=false:=same_lenItem (f:=sameI) rfl (fun _ _ _ _=>rfl) (fun _ _=>rfl) (fun _ _=>rfl) xs ys hlen
  rw [E]
  have hd:((xs.length:Int) != (ys.length:Int))=true:=by simp;omega
  go_enter Tryz.func81,Tryz.ntmps81
  go_wp2
  go_ret
  exact ⟨rfl,Below.refl _ _⟩
 case pos=>
  have hd:((xs.length:Int) != (ys.length:Int))=false:=by simp [hlen]
  have HL:Hid (xs.length=ys.length):=hlen
  clear hlen
  go_enter Tryz.func81,Tryz.ntmps81
  go_wp2
  go_loopw [13] (fun i wr=>∃ k m:Nat,k≤xs.length∧i=.int .i64 k∧wr=w.drewN m∧Hid (∀ j,j < k→sameI (xs.getD j itemNo) (ys.getD j itemNo)=true)) (fun i _=>xs.length - (intOf i).toNat)
  case atStart=>exact ⟨0,0,Nat.zero_le _,rfl,rfl,fun j hj=>absurd hj (Nat.not_lt_zero _)⟩
  case round=>
   obtain ⟨k,m,hk,rfl,rfl,HA⟩:=hrel
   by_cases hlt:k < xs.length
   ·have hlt' : k < ys.length:=by have:=HL.out;omega
    obtain ⟨b,off,rfl,hbs,hc0,hc1⟩:=h.at k hlt
    obtain ⟨b',off',rfl,hbs',hd0,hd1⟩:=h'.at k hlt'
    cases hs:sameI (xs.getD k itemNo) (ys.getD k itemNo)
    case false=>
     have E:Hid (sameIs xs ys=false):=same_badItem (f:=sameI) itemNo (fun _ _ _ _=>rfl) xs ys k HL.out hlt hs
     have hr:=eqItem_run (xs.getD k itemNo).key (xs.getD k itemNo).val (ys.getD k itemNo).key (ys.getD k itemNo).val
     rw [show sameI ⟨(xs.getD k itemNo).key,(xs.getD k itemNo).val⟩ ⟨(ys.getD k itemNo).key,(ys.getD k itemNo).val⟩=false from hs,Bool.not_false] at hr
     clear HA hs
     generalize xs.getD k itemNo=z at hc0 hc1 hr
     generalize ys.getD k itemNo=z' at hd0 hd1 hr
     go_wp2
     go_quiet (fail)
     go_wp2
     go_ret
     rw [E.out]
     exact ⟨rfl,below_drewN (below_drewN (Below.refl _ _) _) _⟩
    case true=>
     have HB:Hid (∀ j,j < k + 1→sameI (xs.getD j itemNo) (ys.getD j itemNo)=true):=by
      intro j hj
      by_cases hjk:j=k
      ·subst hjk;exact hs
      ·exact HA.out j (by omega)
     have hr:=eqItem_run (xs.getD k itemNo).key (xs.getD k itemNo).val (ys.getD k itemNo).key (ys.getD k itemNo).val
     rw [show sameI ⟨(xs.getD k itemNo).key,(xs.getD k itemNo).val⟩ ⟨(ys.getD k itemNo).key,(ys.getD k itemNo).val⟩=true from hs,Bool.not_true] at hr
     clear HA hs
     generalize xs.getD k itemNo=z at hc0 hc1 hr
     generalize ys.getD k itemNo=z' at hd0 hd1 hr
     go_wp2
     go_quiet (fail)
     go_wp2
     go_roundw
     case rel=>exact ⟨k + 1,_,by omega,by go_num,rfl,HB⟩
     case measure=>simp [intOf];omega
   ·have E:Hid (sameIs xs ys=true):=same_allItem (f:=sameI) itemNo rfl (fun _ _ _ _=>rfl) xs ys HL.out (fun j hj=>HA.out j (by omega))
    clear HA
    go_wp2
    go_ret
    rw [E.out]
    exact ⟨rfl,below_drewN (Below.refl _ _) _⟩

set_option maxHeartbeats 2000000 in
theorem specSameItems_any (a a' : Option Addr) (cap cap' : Nat) (xs ys:List ItemD) (w:World) (h:ItemRow w a xs) (h' : ItemRow w a' ys) (hl:xs.length≤1048576) (hl' : ys.length≤1048576) :
  Calls Tryz.prog 160 #[.slice a xs.length cap,.slice a' ys.length cap'] w fun e w' => e=.returned (.bool (sameIs xs ys))∧Below w.heap.size w w' := by
 by_cases hlen:xs.length=ys.length
 case neg=>
  have E:sameIs xs ys=false:=same_lenItem (f:=sameI) rfl (fun _ _ _ _=>rfl) (fun _ _=>rfl) (fun _ _=>rfl) xs ys hlen
  rw [E]
  have hd:((xs.length:Int) != (ys.length:Int))=true:=by simp;omega
  go_enter Tryz.func160,Tryz.ntmps160
  go_wp2
  go_ret
  exact ⟨rfl,Below.refl _ _⟩
 case pos=>
  have hd:((xs.length:Int) != (ys.length:Int))=false:=by simp [hlen]
  have HL:Hid (xs.length=ys.length):=hlen
  clear hlen
  go_enter Tryz.func160,Tryz.ntmps160
  go_wp2
  go_loopw [5] (fun i wr=>∃ k m:Nat,k≤xs.length∧i=.int .i64 k∧wr=w.drewN m∧Hid (∀ j,j < k→sameI (xs.getD j itemNo) (ys.getD j itemNo)=true)) (fun i _=>xs.length - (intOf i).toNat)
  case atStart=>exact ⟨0,0,Nat.zero_le _,rfl,rfl,fun j hj=>absurd hj (Nat.not_lt_zero _)⟩
  case round=>
   obtain ⟨k,m,hk,rfl,rfl,HA⟩:=hrel
   by_cases hlt:k < xs.length
   ·have hlt' : k < ys.length:=by have:=HL.out;omega
    obtain ⟨b,off,rfl,hbs,hc0,hc1⟩:=h.at k hlt
    obtain ⟨b',off',rfl,hbs',hd0,hd1⟩:=h'.at k hlt'
    cases hs:sameI (xs.getD k itemNo) (ys.getD k itemNo)
    case false=>
     have E:Hid (sameIs xs ys=false):=same_badItem (f:=sameI) itemNo (fun _ _ _ _=>rfl) xs ys k HL.out hlt hs
     have hr:=eqItem_run (xs.getD k itemNo).key (xs.getD k itemNo).val (ys.getD k itemNo).key (ys.getD k itemNo).val
     rw [show sameI ⟨(xs.getD k itemNo).key,(xs.getD k itemNo).val⟩ ⟨(ys.getD k itemNo).key,(ys.getD k itemNo).val⟩=false from hs,Bool.not_false] at hr
     clear HA hs
     generalize xs.getD k itemNo=z at hc0 hc1 hr
     generalize ys.getD k itemNo=z' at hd0 hd1 hr
     go_wp2
     go_quiet (fail)
     go_wp2
     go_ret
     rw [E.out]
     exact ⟨rfl,below_drewN (below_drewN (Below.refl _ _) _) _⟩
    case true=>
     have HB:Hid (∀ j,j < k + 1→sameI (xs.getD j itemNo) (ys.getD j itemNo)=true):=by
      intro j hj
      by_cases hjk:j=k
      ·subst hjk;exact hs
      ·exact HA.out j (by omega)
     have hr:=eqItem_run (xs.getD k itemNo).key (xs.getD k itemNo).val (ys.getD k itemNo).key (ys.getD k itemNo).val
     rw [show sameI ⟨(xs.getD k itemNo).key,(xs.getD k itemNo).val⟩ ⟨(ys.getD k itemNo).key,(ys.getD k itemNo).val⟩=true from hs,Bool.not_true] at hr
     clear HA hs
     generalize xs.getD k itemNo=z at hc0 hc1 hr
     generalize ys.getD k itemNo=z' at hd0 hd1 hr
     go_wp2
     go_quiet (fail)
     go_wp2
     go_roundw
     case rel=>exact ⟨k + 1,_,by omega,by go_num,rfl,HB⟩
     case measure=>simp [intOf];omega
   ·have E:Hid (sameIs xs ys=true):=same_allItem (f:=sameI) itemNo rfl (fun _ _ _ _=>rfl) xs ys HL.out (fun j hj=>HA.out j (by omega))
    clear HA
    go_wp2
    go_ret
    rw [E.out]
    exact ⟨rfl,below_drewN (Below.refl _ _) _⟩

set_option maxHeartbeats 1000000 in
theorem implSameItems_any (a a' : Option Addr) (cap cap' : Nat) (xs ys:List ItemD) (w:World) (h:ItemRow w a xs) (h' : ItemRow w a' ys) (hl:xs.length≤1048576) (hl' : ys.length≤1048576) :
  Calls Tryz.prog 34 #[.slice a xs.length cap,.slice a' ys.length cap'] w fun e w' => e=.returned (.bool (sameIs xs ys))∧Below w.heap.size w w' := by
 have hq:=fun w h h' => equalI_any a a' cap cap' xs ys w h h' hl hl'
 generalize sameIs xs ys=r at hq
 go_enter Tryz.func34,Tryz.ntmps34
 go_wp2_with fail
 refine (hq _ h h').mono ?_
 rintro e w' ⟨rfl,hb⟩
 go_wp2
 go_ret
 exact ⟨rfl,hb⟩

end Go.Proofs.YtfdkcbafpiojkaaGreatDoor

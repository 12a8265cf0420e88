/- Texts joined, with what the laws reach alone. -/
import Derived.Test.YtjjoahhnkpjolaaGreatDoorCFAQ
import Derived.Deep.Slices
import Derived.Deep.Strs
import Derived.ProofKit
import Derived.Test.YtjjoahhnkpjolaaGreatDoorRows
import Derived.Lib.LaidU8
import Derived.OpenVars
import Derived.LaidMore
import Derived.Stop.LaidErr
import Derived.Stop.Joined
set_option linter.unusedVariables false
set_option linter.unusedSimpArgs false
namespace Go.Proofs.YtjjoahhnkpjolaaGreatDoor
open Go.RowKit Go.Deep Go.ChangeShapes Go.WideShapes
set_option maxRecDepth 100000
theorem flatten_at {α:Type} {c:Nat} (css:List (List α)) (hc:∀ l∈css,l.length=c):∀ (j:Nat) (x:α),css.flatten[j]? = some x→∃ i r,j=i * c + r∧r < c∧i < css.length∧(css.getD i [])[r]? = some x:=by
 induction css with
 | nil=>intro j x h;simp at h
 | cons l css ih=>
  intro j x h
  have hl:l.length=c:=hc l (by simp)
  rw [List.flatten_cons] at h
  by_cases hj:j < c
  ·rw [List.getElem?_append_left (by omega)] at h
   exact ⟨0,j,by omega,hj,by simp,by simpa [List.getD] using h⟩
  ·rw [List.getElem?_append_right (by omega),hl] at h
   obtain ⟨i,r,e1,e2,e3,e4⟩:=ih (fun l hl=>hc l (by simp [hl])) _ _ h
   refine ⟨i + 1,r,?_,e2,by simpa using e3,by simpa [List.getD] using e4⟩
   rw [Nat.add_mul];omega

section
variable {H:Type} {enc:TypeId × Value→H} {P:Program} {w:World} {base:Nat} {spare:Nat→Bool} {held:Bool}
set_option maxRecDepth 100000 in
theorem open_row {t e:TypeId} {c fuel:Nat} {cs:List Value} {x:DataW H × List MemPlace} (ht:P.underlying t=some (.slice e)) (hc:P.cellsOf e=c) (hc0:0 < c) (h:DataW.trod enc P w base spare held fuel t cs=some x) :
  ∃ (a:Option Addr) (cap n:Nat) (css:List (List Value)),cs=[.slice a css.length cap]∧css.length≤9223372036854775807∧Lies w a css.flatten∧∀ l∈css,l.length=c∧∃ y,DataW.trod enc P w base spare held n e l=some y:=by
 rcases open_slice ht h with ⟨rfl,_⟩ | ⟨a,len,cap,m,n,D,Pl,rfl,hb,hl,hm,hmm,rfl,hx⟩
 ·exact ⟨none,0,0,[],rfl,by simp,Or.inl rfl,by simp⟩
 have hlm:len≤m:=by rw [hmm];split <;> omega
 rw [hc] at hx
 obtain ⟨f,hf⟩:=choose_lt (α:=List Value) (p:=fun i l=>w.cells? base (a.add (i * c)) c=some l∧DataW.trod enc P w base spare held n e l=some (D i,Pl i)) (fun i hi=>hx i (Nat.lt_of_lt_of_le hi hlm))
 have hlen:∀ i,i < len→(f i).length=c:=fun i hi=>(World.cells?_some (hf i hi).1).2.1
 have hall:∀ l∈(List.range len).map f,l.length=c:=by
  intro l hl
  obtain ⟨i,hi,rfl⟩:=List.mem_map.1 hl
  exact hlen i (List.mem_range.1 hi)
 refine ⟨some a,cap,n,(List.range len).map f,by simp,?_,?_,?_⟩
 ·unfold maxLen at hm;simp;omega
 ·by_cases h0:len=0
  ·subst h0;exact Or.inl rfl
  ·right
   have h00:=(World.cells?_some (hf 0 (by omega)).1).2.2 0 hc0
   obtain ⟨v,hv⟩:∃ v,(f 0)[0]? = some v:=⟨_,List.getElem?_eq_getElem (by rw [hlen 0 (by omega)];exact hc0)⟩
   rw [hv,add_add] at h00
   obtain ⟨b,off,spot⟩:=a
   have hspot:spot=none:=by simpa [Addr.add] using World.cell?_spot h00
   subst hspot
   refine ⟨b,off,rfl,by simpa [Addr.add_lit] using World.block_lt_of_cell? w _ h00,?_⟩
   intro j x hj
   obtain ⟨i,r,rfl,hr,hi,hxr⟩:=flatten_at _ hall j x hj
   have hi' : i < len:=by simpa using hi
   have hxr' : (f i)[r]? = some x:=by simpa [List.getD,hi'] using hxr
   have:=(World.cells?_some (hf i hi').1).2.2 r hr
   rw [add_add,Addr.add_lit,hxr'] at this
   exact this
 ·intro l hl
  obtain ⟨i,hi,rfl⟩:=List.mem_map.1 hl
  exact ⟨hlen i (List.mem_range.1 hi),_,(hf i (List.mem_range.1 hi)).2⟩

end
theorem list_pre {α β:Type} {p:β→α→Prop} {q:α→Prop} (f:β→α) (l:List α) (h:∀ x∈l,∃ b,x=f b):∃ bs:List β,l=bs.map f:=by
 induction l with
 | nil=>exact ⟨[],rfl⟩
 | cons x l ih=>
  obtain ⟨bs,rfl⟩:=ih (fun x hx=>h x (by simp [hx]))
  obtain ⟨b,rfl⟩:=h x (by simp)
  exact ⟨b :: bs,rfl⟩

section
variable {H:Type} {enc:TypeId × Value→H} {w:World} {base:Nat} {spare:Nat→Bool} {held:Bool}
set_option maxRecDepth 100000 in
theorem open_act {fuel:Nat} {cs:List Value} {x:DataW H × List MemPlace} (h:DataW.trod enc Tryz.prog w base spare held fuel 286 cs=some x):∃ z:ActD,cs=z.cells:=by
 obtain ⟨y0,y1,y2,n,_,hl,h0,h1,h2⟩:=trod_struct3 Tryz.underlying286 h
 rw [show Tryz.prog.cellsOf 286=3 by kernel_rfl] at hl
 have e:Tryz.prog.cellsOf 2=1:=by kernel_rfl
 match cs,hl with
 | [c0,c1,c2],_=>
  simp only [e,List.drop_zero,List.drop_succ_cons,List.take_succ_cons,List.take_zero] at h0 h1 h2
  obtain ⟨k,e0,_⟩:=DataW.trod_int Tryz.underlying2 h0
  obtain ⟨y,e1,_⟩:=DataW.trod_int Tryz.underlying2 h1
  obtain ⟨v,e2,_⟩:=DataW.trod_int Tryz.underlying2 h2
  simp only [List.cons.injEq,and_true] at e0 e1 e2
  exact ⟨⟨k,y,v⟩,by rw [e0,e1,e2];rfl⟩

set_option maxRecDepth 100000 in
theorem open_acts {fuel:Nat} {cs:List Value} {x:DataW H × List MemPlace} (h:DataW.trod enc Tryz.prog w base spare held fuel 177 cs=some x) :
  ∃ (a:Option Addr) (cap:Nat) (zs:List ActD),cs=[.slice a zs.length cap]∧zs.length≤9223372036854775807∧ActRow w a zs:=by
 obtain ⟨a,cap,n,css,rfl,hl,hL,hc⟩:=open_row Tryz.underlying177 (show Tryz.prog.cellsOf 286=3 by kernel_rfl) (by omega) h
 obtain ⟨zs,rfl⟩:=list_pre (p:=fun _ _=>True) (q:=fun _=>True) ActD.cells css (fun l hl=>by obtain ⟨_,y,hy⟩:=hc l hl;exact open_act hy)
 refine ⟨a,cap,zs,by simp,by simpa using hl,?_⟩
 rw [← List.flatMap_def] at hL
 exact hL

set_option maxRecDepth 100000 in
theorem open_txnCells {fuel:Nat} {cs:List Value} {x:DataW H × List MemPlace} (h:DataW.trod enc Tryz.prog w base spare held fuel 179 cs=some x) :
  ∃ (i s q:Int) (a:Option Addr) (cap:Nat) (zs:List ActD),cs=[.int .i64 i,.int .i64 s,.int .i64 q,.slice a zs.length cap]∧zs.length≤9223372036854775807∧ActRow w a zs:=by
 obtain ⟨y0,y1,y2,y3,n,_,hl,h0,h1,h2,h3⟩:=Go.Joins.trod_struct4 Tryz.underlying179 h
 rw [show Tryz.prog.cellsOf 179=4 by kernel_rfl] at hl
 have e:Tryz.prog.cellsOf 2=1:=by kernel_rfl
 have e' : Tryz.prog.cellsOf 177=1:=by kernel_rfl
 match cs,hl with
 | [c0,c1,c2,c3],_=>
  simp only [e,e',List.drop_zero,List.drop_succ_cons,List.take_succ_cons,List.take_zero] at h0 h1 h2 h3
  obtain ⟨k,e0,_⟩:=DataW.trod_int Tryz.underlying2 h0
  obtain ⟨y,e1,_⟩:=DataW.trod_int Tryz.underlying2 h1
  obtain ⟨v,e2,_⟩:=DataW.trod_int Tryz.underlying2 h2
  obtain ⟨a,cap,zs,e3,hz,hA⟩:=open_acts h3
  simp only [List.cons.injEq,and_true] at e0 e1 e2 e3
  exact ⟨k,y,v,a,cap,zs,by rw [e0,e1,e2,e3],hz,hA⟩

end
end Go.Proofs.YtjjoahhnkpjolaaGreatDoor
namespace Go.Proofs.YtjjoahhnkpjolaaGreatDoor
open Go.RowKit Go.Deep Go.ChangeShapes Go.WideShapes
set_option maxRecDepth 100000
section
variable {H:Type} {enc:TypeId × Value→H} {w:World} {base:Nat} {spare:Nat→Bool} {held:Bool}
theorem list_pre2 {α β:Type} (f:β→α) (q:β→Prop) (l:List α) (h:∀ x∈l,∃ b,x=f b∧q b):∃ bs:List β,l=bs.map f∧∀ b∈bs,q b:=by
 induction l with
 | nil=>exact ⟨[],rfl,by simp⟩
 | cons x l ih=>
  obtain ⟨bs,rfl,hq⟩:=ih (fun x hx=>h x (by simp [hx]))
  obtain ⟨b,rfl,hb⟩:=h x (by simp)
  exact ⟨b :: bs,rfl,by intro c hc;rcases List.mem_cons.1 hc with rfl | hc;exact hb;exact hq c hc⟩

end
end Go.Proofs.YtjjoahhnkpjolaaGreatDoor
namespace Go.Proofs.YtjjoahhnkpjolaaGreatDoor
open Go.RowKit Go.Deep Go.ChangeShapes Go.WideShapes
set_option maxRecDepth 100000
section
variable {H:Type} {enc:TypeId × Value→H} {w:World} {base:Nat} {spare:Nat→Bool} {held:Bool}
/-- A slice of whatever elements that are opened one by one. -/
theorem open_kind {P:Type} (K:Kind P) (q:P→Prop) {t e:TypeId} {fuel:Nat} {cs:List Value} {x:DataW H × List MemPlace} (ht:Tryz.prog.underlying t=some (.slice e)) (hc:Tryz.prog.cellsOf e=K.size) (hc0:0 < K.size)
  (hel:∀ (n:Nat) (l:List Value) y,DataW.trod enc Tryz.prog w base spare held n e l=some y→∃ p:P,l=K.cells p∧K.rd w p∧q p) (h:DataW.trod enc Tryz.prog w base spare held fuel t cs=some x) :
  ∃ (v:Value) (ps:List P),cs=[v]∧K.At w v ps∧ps.length≤9223372036854775807∧∀ p∈ps,q p:=by
 obtain ⟨a,cap,n,css,rfl,hl,hL,hcs⟩:=open_row ht hc hc0 h
 obtain ⟨ps,rfl,hq⟩:=list_pre2 K.cells (fun p=>K.rd w p∧q p) css (fun l hl=>by
  obtain ⟨_,y,hy⟩:=hcs l hl
  obtain ⟨p,h1,h2,h3⟩:=hel n l y hy
  exact ⟨p,h1,h2,h3⟩)
 rw [← List.flatMap_def] at hL
 refine ⟨.slice a (ps.map K.cells).length cap,ps,rfl,⟨a,cap,by rw [List.length_map],hL,fun p hp=>(hq p hp).1⟩,by simpa using hl,fun p hp=>(hq p hp).2⟩

theorem open_i64 (n:Nat) (l:List Value) (y:DataW H × List MemPlace) (h:DataW.trod enc Tryz.prog w base spare held n 2 l=some y):∃ p:Int,l=intK.cells p∧intK.rd w p∧True:=by
 obtain ⟨k,e,_⟩:=DataW.trod_int Tryz.underlying2 h
 exact ⟨k,e,trivial,trivial⟩

theorem open_intsK {fuel:Nat} {cs:List Value} {x:DataW H × List MemPlace} (h:DataW.trod enc Tryz.prog w base spare held fuel 75 cs=some x) :
  ∃ (v:Value) (zs:List Int),cs=[v]∧intK.At w v zs∧zs.length≤9223372036854775807:=by
 obtain ⟨v,ps,h1,h2,h3,_⟩:=open_kind intK (fun _=>True) Tryz.underlying75 (by kernel_rfl) (by decide) open_i64 h
 exact ⟨v,ps,h1,h2,h3⟩

theorem open_txnK (n:Nat) (l:List Value) (y:DataW H × List MemPlace) (h:DataW.trod enc Tryz.prog w base spare held n 179 l=some y):∃ p:TxnQ,l=txnK.cells p∧txnK.rd w p∧TxnQ.wf p:=by
 obtain ⟨i,s,q,a,cap,zs,e,hz,hA⟩:=open_txnCells h
 exact ⟨⟨i,s,q,.slice a zs.length cap,zs⟩,e,actK_mk hA,hz⟩

theorem open_txnsK {fuel:Nat} {cs:List Value} {x:DataW H × List MemPlace} (h:DataW.trod enc Tryz.prog w base spare held fuel 73 cs=some x) :
  ∃ (v:Value) (ps:List TxnQ),cs=[v]∧txnK.At w v ps∧ps.length≤9223372036854775807∧∀ p∈ps,TxnQ.wf p:=
 open_kind txnK TxnQ.wf Tryz.underlying73 (by kernel_rfl) (by decide) open_txnK h

theorem open_roundK (n:Nat) (l:List Value) (y:DataW H × List MemPlace) (h:DataW.trod enc Tryz.prog w base spare held n 181 l=some y):∃ p:RoundQ,l=roundK.cells p∧roundK.rd w p∧RoundQ.wf p:=by
 obtain ⟨y0,y1,n,_,hl,h0,h1⟩:=trod_struct2 Tryz.underlying181 h
 rw [show Tryz.prog.cellsOf 181=2 by kernel_rfl] at hl
 have e:Tryz.prog.cellsOf 75=1:=by kernel_rfl
 match l,hl with
 | [c0,c1],_=>
  simp only [e,List.drop_zero,List.drop_succ_cons,List.take_succ_cons,List.take_zero] at h0 h1
  obtain ⟨v0,z0,e0,a0,l0⟩:=open_intsK h0
  obtain ⟨v1,z1,e1,a1,l1⟩:=open_intsK h1
  simp only [List.cons.injEq,and_true] at e0 e1
  exact ⟨⟨v0,z0,v1,z1⟩,by rw [e0,e1];rfl,⟨a0,a1⟩,⟨l0,l1⟩⟩

theorem open_roundsK {fuel:Nat} {cs:List Value} {x:DataW H × List MemPlace} (h:DataW.trod enc Tryz.prog w base spare held fuel 74 cs=some x) :
  ∃ (v:Value) (ps:List RoundQ),cs=[v]∧roundK.At w v ps∧ps.length≤9223372036854775807∧∀ p∈ps,RoundQ.wf p:=
 open_kind roundK RoundQ.wf Tryz.underlying74 (by kernel_rfl) (by decide) open_roundK h

theorem open_instCells {fuel:Nat} {cs:List Value} {x:DataW H × List MemPlace} (h:DataW.trod enc Tryz.prog w base spare held fuel 77 cs=some x) :
  ∃ p:InstQ,cs=[.bool p.has,p.vb,p.vr,p.vd]∧instK.rd w p∧p.wf:=by
 obtain ⟨y0,y1,y2,y3,n,_,hl,h0,h1,h2,h3⟩:=Go.Joins.trod_struct4 Tryz.underlying77 h
 rw [show Tryz.prog.cellsOf 77=4 by kernel_rfl] at hl
 have e:Tryz.prog.cellsOf 4=1:=by kernel_rfl
 have e' : Tryz.prog.cellsOf 73=1:=by kernel_rfl
 have e2:Tryz.prog.cellsOf 74=1:=by kernel_rfl
 have e3:Tryz.prog.cellsOf 75=1:=by kernel_rfl
 match cs,hl with
 | [c0,c1,c2,c3],_=>
  simp only [e,e',e2,e3,List.drop_zero,List.drop_succ_cons,List.take_succ_cons,List.take_zero] at h0 h1 h2 h3
  obtain ⟨k,e0,_⟩:=DataW.trod_bool Tryz.underlying4 h0
  obtain ⟨v1,z1,e1,a1,l1,w1⟩:=open_txnsK h1
  obtain ⟨v2,z2,e2,a2,l2,w2⟩:=open_roundsK h2
  obtain ⟨v3,z3,e3,a3,l3⟩:=open_intsK h3
  simp only [List.cons.injEq,and_true] at e0 e1 e2 e3
  exact ⟨⟨k,v1,z1,v2,z2,v3,z3⟩,by rw [e0,e1,e2,e3],⟨a1,a2,a3⟩,⟨⟨l1,w1⟩,⟨l2,w2⟩,l3⟩⟩

end
end Go.Proofs.YtjjoahhnkpjolaaGreatDoor
namespace Go.Proofs.YtjjoahhnkpjolaaGreatDoor
open Go.RowKit Go.ChangeShapes Go.WideShapes
set_option maxRecDepth 100000
theorem gRul : Tryz.prog.globalNamed "loop.example/g00631/impl.rules" = some 2 := by kernel_rfl

theorem tRul:(Tryz.prog.globals[2]?).map (·.type)=some 366:=by kernel_rfl

theorem cRule:Tryz.prog.cellsOf 351=7:=by kernel_rfl

theorem cCh:Tryz.prog.cellsOf 109=4:=by kernel_rfl

theorem cI:Tryz.prog.cellsOf 2=1:=by kernel_rfl

theorem cB:Tryz.prog.cellsOf 4=1:=by kernel_rfl

section
variable {H:Type} {enc:TypeId × Value→H} {w:World} {base:Nat} {spare:Nat→Bool} {held:Bool}
theorem choice_cells {fuel:Nat} {cs:List Value} {c v:Int} {d k:Bool} {q:List MemPlace} (h:DataW.trod enc Tryz.prog w base spare held fuel 109 cs=some (.agg [.lit (.int .i64 c),.lit (.bool d),.lit (.bool k),.lit (.int .i64 v)],q)):cs=[.int .i64 c,.bool d,.bool k,.int .i64 v]:=by
 obtain ⟨y0,y1,y2,y3,n,hx,hl,h0,h1,h2,h3⟩:=Go.Joins.trod_struct4 Tryz.underlying109 h
 rw [cCh] at hl
 simp only [Prod.mk.injEq,DataW.agg.injEq,List.cons.injEq,and_true] at hx
 obtain ⟨⟨x0,x1,x2,x3⟩,_⟩:=hx
 match cs,hl with
 | [c0,c1,c2,c3],_=>
  simp only [cI,cB,List.drop_zero,List.drop_succ_cons,List.take_succ_cons,List.take_zero] at h0 h1 h2 h3
  obtain ⟨n0,e0,g0,_⟩:=DataW.trod_int Tryz.underlying2 h0
  obtain ⟨n1,e1,g1⟩:=DataW.trod_bool Tryz.underlying4 h1
  obtain ⟨n2,e2,g2⟩:=DataW.trod_bool Tryz.underlying4 h2
  obtain ⟨n3,e3,g3,_⟩:=DataW.trod_int Tryz.underlying2 h3
  simp only [List.cons.injEq,and_true] at e0 e1 e2 e3
  rw [g0] at x0
  rw [g1] at x1
  rw [g2] at x2
  rw [g3] at x3
  simp at x0 x1 x2 x3
  rw [e0,e1,e2,e3,x0,x1,x2,x3]

theorem rule_cells {fuel:Nat} {cs:List Value} {z o p c v:Int} {d k:Bool} {q:List MemPlace} (h:DataW.trod enc Tryz.prog w base spare held fuel 351 cs=some (.agg [.lit (.int .i64 z),.lit (.int .i64 o),.lit (.int .i64 p),.agg [.lit (.int .i64 c),.lit (.bool d),.lit (.bool k),.lit (.int .i64 v)]],q)) :
  cs=[.int .i64 z,.int .i64 o,.int .i64 p,.int .i64 c,.bool d,.bool k,.int .i64 v]:=by
 obtain ⟨y0,y1,y2,y3,n,hx,hl,h0,h1,h2,h3⟩:=Go.Joins.trod_struct4 Tryz.underlying351 h
 rw [cRule] at hl
 simp only [Prod.mk.injEq,DataW.agg.injEq,List.cons.injEq,and_true] at hx
 obtain ⟨⟨x0,x1,x2,x3⟩,_⟩:=hx
 match cs,hl with
 | [c0,c1,c2,c3,c4,c5,c6],_=>
  simp only [cI,cCh,List.drop_zero,List.drop_succ_cons,List.take_succ_cons,List.take_zero] at h0 h1 h2 h3
  obtain ⟨n0,e0,g0,_⟩:=DataW.trod_int Tryz.underlying2 h0
  obtain ⟨n1,e1,g1,_⟩:=DataW.trod_int Tryz.underlying2 h1
  obtain ⟨n2,e2,g2,_⟩:=DataW.trod_int Tryz.underlying2 h2
  obtain ⟨y30,y31⟩:=y3
  dsimp only at x3
  rw [← x3] at h3
  have e3:=choice_cells h3
  simp only [List.cons.injEq,and_true] at e0 e1 e2 e3
  rw [g0] at x0
  rw [g1] at x1
  rw [g2] at x2
  simp at x0 x1 x2
  obtain ⟨e3,e4,e5,e6⟩:=e3
  rw [e0,e1,e2,e3,e4,e5,e6,x0,x1,x2]

end
end Go.Proofs.YtjjoahhnkpjolaaGreatDoor
namespace Go.Proofs.YtjjoahhnkpjolaaGreatDoor
open Go.RowKit
open Go.BigFrame
set_option maxRecDepth 100000
def sameA (x y:ActD):Bool:=(x.kind == y.kind) && ((x.key == y.key) && (x.val == y.val))

def sameAs:List ActD→List ActD→Bool
 | [],[]=>true
 | x :: r,y :: s=>sameA x y && sameAs r s
 | _,_=>false

def sameT (x y:TxnD):Bool:=(x.id == y.id) && (x.session == y.session) && (x.seq == y.seq) && sameAs x.acts y.acts

def sameTs:List TxnD→List TxnD→Bool
 | [],[]=>true
 | x :: r,y :: s=>sameT x y && sameTs r s
 | _,_=>false

/-- A comparison of two lists, place by place. -/
theorem same_len {α:Type} {f:α→α→Bool} {g:List α→List α→Bool} (h0:g [] []=true) (h1:∀ x r y s,g (x :: r) (y :: s)=(f x y && g r s)) (h2:∀ x r,g (x :: r) []=false) (h3:∀ y s,g [] (y :: s)=false) :
  ∀ a b,a.length≠b.length→g a b=false:=by
 intro a
 induction a with
 | nil=>intro b h;cases b with | nil=>simp at h | cons y s=>exact h3 y s
 | cons x r ih=>intro b h;cases b with | nil=>exact h2 x r | cons y s=>rw [h1,ih s (by simpa using h)];simp

theorem same_bad {α:Type} {f:α→α→Bool} {g:List α→List α→Bool} (d:α) (h1:∀ x r y s,g (x :: r) (y :: s)=(f x y && g r s)) :
  ∀ a b k,a.length=b.length→k < a.length→f (a.getD k d) (b.getD k d)=false→g a b=false:=by
 intro a
 induction a with
 | nil=>intro b k _ h;simp at h
 | cons x r ih=>
  intro b k hl hk hf
  cases b with
  | nil=>simp at hl
  | cons y s=>
   rw [h1]
   cases k with
   | zero=>simp [List.getD] at hf;simp [hf]
   | succ k=>rw [ih s k (by simpa using hl) (by simpa using hk) (by simpa [List.getD] using hf)];simp

theorem same_all {α:Type} {f:α→α→Bool} {g:List α→List α→Bool} (d:α) (h0:g [] []=true) (h1:∀ x r y s,g (x :: r) (y :: s)=(f x y && g r s)) :
  ∀ a b,a.length=b.length→(∀ k,k < a.length→f (a.getD k d) (b.getD k d)=true)→g a b=true:=by
 intro a
 induction a with
 | nil=>intro b hl _;cases b with | nil=>exact h0 | cons y s=>simp at hl
 | cons x r ih=>
  intro b hl hf
  cases b with
  | nil=>simp at hl
  | cons y s=>
   rw [h1,ih s (by simpa using hl) (fun k hk=>by simpa [List.getD] using hf (k + 1) (by simpa using hk))]
   have:=hf 0 (by simp)
   simp [List.getD] at this
   simp [this]

theorem eqAct_run (x0 x1 x2 y0 y1 y2:Int) (w:World):(binOp .neq 210 (.agg #[.int .i64 x0,.int .i64 x1,.int .i64 x2]) (.agg #[.int .i64 y0,.int .i64 y1,.int .i64 y2])).run Tryz.prog w=.ok (.bool (!sameA ⟨x0,x1,x2⟩ ⟨y0,y1,y2⟩)) w:=by
 rw [run_neq_struct,run_equalIn_struct (P:=Tryz.prog) w 9999 210 _ _ (by kernel_rfl) (by kernel_rfl)]
 have c1:Tryz.prog.cellsOf 2=1:=by kernel_rfl
 cases h0:(x0 == y0) <;> cases h1:(x1 == y1) <;> cases h2:(x2 == y2) <;> simp [Program.fieldsOf,Tryz.underlying210,Op.eqFields,go_sem,Tryz.underlying2,h0,h1,h2,sameA,c1]

set_option maxRecDepth 100000 in
set_option maxHeartbeats 2000000 in
theorem equalA_any (a a' : Option Addr) (cap cap' : Nat) (xs ys:List ActD) (w:World) (h:ActRow w a xs) (h' : ActRow w a' ys) (hl:xs.length≤1048576) (hl' : ys.length≤1048576) :
  Calls Tryz.prog 136 #[.slice a xs.length cap,.slice a' ys.length cap'] w fun e w' => e=.returned (.bool (sameAs xs ys))∧Below w.heap.size w w' := by
 by_cases hlen:xs.length=ys.length
 case neg=>
  have E:sameAs xs ys=false:=same_len (f:=sameA) rfl (fun _ _ _ _=>rfl) (fun _ _=>rfl) (fun _ _=>rfl) xs ys hlen
  rw [E]
  have hd:((xs.length:Int) != (ys.length:Int))=true:=by simp;omega
  go_enter Tryz.func136,Tryz.ntmps136
  go_wp2
  go_ret
  exact ⟨rfl,Below.refl _ _⟩
 case pos=>
  have hd:((xs.length:Int) != (ys.length:Int))=false:=by simp [hlen]
  have HL:Hid (xs.length=ys.length):=hlen
  clear hlen
  go_enter Tryz.func136,Tryz.ntmps136
  go_wp2
  go_loopw [13] (fun i wr=>∃ k m:Nat,k≤xs.length∧i=.int .i64 k∧wr=w.drewN m∧Hid (∀ j,j < k→sameA (xs.getD j actNo) (ys.getD j actNo)=true)) (fun i _=>xs.length - (intOf i).toNat)
  case atStart=>exact ⟨0,0,Nat.zero_le _,rfl,rfl,fun j hj=>absurd hj (Nat.not_lt_zero _)⟩
  case round=>
   obtain ⟨k,m,hk,rfl,rfl,HA⟩:=hrel
   by_cases hlt:k < xs.length
   ·have hlt' : k < ys.length:=by have:=HL.out;omega
    obtain ⟨b,off,rfl,hbs,hc0,hc1,hc2⟩:=h.at k hlt
    obtain ⟨b',off',rfl,hbs',hd0,hd1,hd2⟩:=h'.at k hlt'
    cases hs:sameA (xs.getD k actNo) (ys.getD k actNo)
    case false=>
     have E:Hid (sameAs xs ys=false):=same_bad (f:=sameA) actNo (fun _ _ _ _=>rfl) xs ys k HL.out hlt hs
     have hr:=eqAct_run (xs.getD k actNo).kind (xs.getD k actNo).key (xs.getD k actNo).val (ys.getD k actNo).kind (ys.getD k actNo).key (ys.getD k actNo).val
     rw [show sameA ⟨(xs.getD k actNo).kind,(xs.getD k actNo).key,(xs.getD k actNo).val⟩ ⟨(ys.getD k actNo).kind,(ys.getD k actNo).key,(ys.getD k actNo).val⟩=false from hs,Bool.not_false] at hr
     clear HA hs
     generalize xs.getD k actNo=z at hc0 hc1 hc2 hr
     generalize ys.getD k actNo=z' at hd0 hd1 hd2 hr
     go_wp2
     go_quiet (fail)
     go_wp2
     go_ret
     rw [E.out]
     exact ⟨rfl,⟨rfl,rfl,rfl,Nat.le_refl _,fun _ _=>rfl⟩⟩
    case true=>
     have HB:Hid (∀ j,j < k + 1→sameA (xs.getD j actNo) (ys.getD j actNo)=true):=by
      intro j hj
      by_cases hjk:j=k
      ·subst hjk;exact hs
      ·exact HA.out j (by omega)
     have hr:=eqAct_run (xs.getD k actNo).kind (xs.getD k actNo).key (xs.getD k actNo).val (ys.getD k actNo).kind (ys.getD k actNo).key (ys.getD k actNo).val
     rw [show sameA ⟨(xs.getD k actNo).kind,(xs.getD k actNo).key,(xs.getD k actNo).val⟩ ⟨(ys.getD k actNo).kind,(ys.getD k actNo).key,(ys.getD k actNo).val⟩=true from hs,Bool.not_true] at hr
     clear HA hs
     generalize xs.getD k actNo=z at hc0 hc1 hc2 hr
     generalize ys.getD k actNo=z' at hd0 hd1 hd2 hr
     go_wp2
     go_quiet (fail)
     go_wp2
     go_roundw
     case rel=>exact ⟨k + 1,_,by omega,by go_num,rfl,HB⟩
     case measure=>simp [intOf];omega
   ·have E:Hid (sameAs xs ys=true):=same_all (f:=sameA) actNo rfl (fun _ _ _ _=>rfl) xs ys HL.out (fun j hj=>HA.out j (by omega))
    clear HA
    go_wp2
    go_ret
    rw [E.out]
    exact ⟨rfl,⟨rfl,rfl,rfl,Nat.le_refl _,fun _ _=>rfl⟩⟩

theorem sameT_ways (x y:TxnD):((x.id == y.id)=false∧sameT x y=false)∨((x.id == y.id)=true∧(x.session == y.session)=false∧sameT x y=false)∨((x.id == y.id)=true∧(x.session == y.session)=true∧(x.seq == y.seq)=false∧sameT x y=false) ∨
  ((x.id == y.id)=true∧(x.session == y.session)=true∧(x.seq == y.seq)=true∧sameT x y=sameAs x.acts y.acts):=by
 unfold sameT
 cases h1:(x.id == y.id) <;> cases h2:(x.session == y.session) <;> cases h3:(x.seq == y.seq) <;> simp

set_option maxRecDepth 100000 in
set_option maxHeartbeats 2000000 in
theorem isSameTxn_any (x y:TxnD) (a a' : Option Addr) (cap cap' : Nat) (w:World) (h:ActRow w a x.acts) (h' : ActRow w a' y.acts) (hl:x.acts.length≤1048576) (hl' : y.acts.length≤1048576) :
    Calls Tryz.prog 85 #[.agg #[.int .i64 x.id,.int .i64 x.session,.int .i64 x.seq,.slice a x.acts.length cap],.agg #[.int .i64 y.id,.int .i64 y.session,.int .i64 y.seq,.slice a' y.acts.length cap']] w fun e w' => e=.returned (.bool (sameT x y))∧Below w.heap.size w w' := by
  have hq:=fun w h h' => equalA_any a a' cap cap' x.acts y.acts w h h' hl hl'
  rcases sameT_ways x y with ⟨h1,e⟩ | ⟨h1,h2,e⟩ | ⟨h1,h2,h3,e⟩ | ⟨h1,h2,h3,e⟩ <;> rw [e] <;> clear e
  all_goals
    (generalize sameAs x.acts y.acts=r at hq
     obtain ⟨x0,x1,x2,xs⟩:=x
     obtain ⟨y0,y1,y2,ys⟩:=y
     dsimp only at *)
  all_goals
    (go_enter Tryz.func85,Tryz.ntmps85
     go_wp2_with (go_at_call 136;refine (hq _ (h.below (by go_grown)) (h'.below (by go_grown))).mono ?_;rintro e w' ⟨rfl,hb⟩)
     go_ret)
  · exact ⟨rfl,by go_grown⟩
  · exact ⟨rfl,by go_grown⟩
  · exact ⟨rfl,by go_grown⟩
  · exact ⟨rfl,below_from (by go_grown) hb⟩

end Go.Proofs.YtjjoahhnkpjolaaGreatDoor
namespace Go.Proofs.YtjjoahhnkpjolaaGreatDoor
open Go.RowKit
open Go.BigFrame
set_option maxRecDepth 100000
set_option maxRecDepth 100000 in
set_option maxHeartbeats 2000000 in
theorem equalFunc_any (v v' : Value) (xs ys:List TxnD) (w:World) (h:TxnsAt w v xs) (h' : TxnsAt w v' ys) (hl:xs.length + sumA xs≤1048576) (hl' : ys.length + sumA ys≤1048576) :
  Calls Tryz.prog 84 #[v,v',.func (.func 85) #[] #[]] w fun e w' => e=.returned (.bool (sameTs xs ys))∧Below w.heap.size w w' := by
 obtain ⟨a,cap,rfl⟩:=h.shape
 obtain ⟨a',cap',rfl⟩:=h'.shape
 by_cases hlen:xs.length=ys.length
 case neg=>
  have E:sameTs xs ys=false:=same_len (f:=sameT) rfl (fun _ _ _ _=>rfl) (fun _ _=>rfl) (fun _ _=>rfl) xs ys hlen
  rw [E]
  have hd:((xs.length:Int) != (ys.length:Int))=true:=by simp;omega
  go_enter Tryz.func84,Tryz.ntmps84
  go_wp2
  go_ret
  exact ⟨rfl,Below.refl _ _⟩
 case pos=>
  have hd:((xs.length:Int) != (ys.length:Int))=false:=by simp [hlen]
  have HL:Hid (xs.length=ys.length):=hlen
  clear hlen
  go_enter Tryz.func84,Tryz.ntmps84
  go_wp2
  go_loopw [17] (fun i wr=>∃ k:Nat,k≤xs.length∧i=.int .i64 k∧Below w.heap.size w wr∧Hid (∀ j,j < k→sameT (xs.getD j txnNo) (ys.getD j txnNo)=true)) (fun i _=>xs.length - (intOf i).toNat)
  case atStart=>exact ⟨0,Nat.zero_le _,rfl,Below.refl _ _,fun j hj=>absurd hj (Nat.not_lt_zero _)⟩
  case round=>
   obtain ⟨k,hk,rfl,hb,HA⟩:=hrel
   by_cases hlt:k < xs.length
   ·have hlt' : k < ys.length:=by have:=HL.out;omega
    obtain ⟨b,off,aa,cc,rfl,hbs,hc0,hc1,hc2,hc3,hA⟩:=(h.below hb).at k hlt
    obtain ⟨b',off',aa',cc',rfl,hbs',hd0,hd1,hd2,hd3,hA'⟩:=(h'.below hb).at k hlt'
    have hzl:(xs.getD k txnNo).acts.length≤sumA xs:=mem_le_sumA (by simp [List.getD,hlt])
    have hzl' : (ys.getD k txnNo).acts.length≤sumA ys:=mem_le_sumA (by simp [List.getD,hlt'])
    have hq:=fun w h h' => isSameTxn_any (xs.getD k txnNo) (ys.getD k txnNo) aa aa' cc cc' w h h' (by omega) (by omega)
    have hs5:=hb.size
    have hal:∀ (o:Obj) (j:Nat),(wr.alloc o).cell? ⟨b',j,none⟩=wr.cell? ⟨b',j,none⟩:=fun o j=>(show Below wr.heap.size wr (wr.alloc o) by go_grown).cell (p:=⟨b',j,none⟩) hbs'
    cases hs:sameT (xs.getD k txnNo) (ys.getD k txnNo)
    case false=>
     have E:Hid (sameTs xs ys=false):=same_bad (f:=sameT) txnNo (fun _ _ _ _=>rfl) xs ys k HL.out hlt hs
     rw [hs] at hq
     clear HA hs
     generalize xs.getD k txnNo=z at hc0 hc1 hc2 hc3 hA hq hzl
     generalize ys.getD k txnNo=z' at hd0 hd1 hd2 hd3 hA' hq hzl'
     obtain ⟨z0,z1,z2,zs⟩:=z
     obtain ⟨y0,y1,y2,us⟩:=z'
     dsimp only at hc0 hc1 hc2 hc3 hA hd0 hd1 hd2 hd3 hA' hq hzl hzl'
     go_wp2_with fail
     refine (hq _ (hA.below (by go_grown)) (hA'.below (by go_grown))).mono ?_
     rintro e w2 ⟨rfl,hb2⟩
     go_wp2
     go_ret
     rw [E.out]
     exact ⟨rfl,below_from (below_from hb (by go_grown)) hb2⟩
    case true=>
     have HB:Hid (∀ j,j < k + 1→sameT (xs.getD j txnNo) (ys.getD j txnNo)=true):=by
      intro j hj
      by_cases hjk:j=k
      ·subst hjk;exact hs
      ·exact HA.out j (by omega)
     rw [hs] at hq
     clear HA hs
     generalize xs.getD k txnNo=z at hc0 hc1 hc2 hc3 hA hq hzl
     generalize ys.getD k txnNo=z' at hd0 hd1 hd2 hd3 hA' hq hzl'
     obtain ⟨z0,z1,z2,zs⟩:=z
     obtain ⟨y0,y1,y2,us⟩:=z'
     dsimp only at hc0 hc1 hc2 hc3 hA hd0 hd1 hd2 hd3 hA' hq hzl hzl'
     go_wp2_with fail
     refine (hq _ (hA.below (by go_grown)) (hA'.below (by go_grown))).mono ?_
     rintro e w2 ⟨rfl,hb2⟩
     have hb3:=below_from (below_from hb (by go_grown)) hb2
     clear hb2 hal hc0 hc1 hc2 hc3 hd0 hd1 hd2 hd3 hA hA' hq
     go_wp2
     go_roundw
     case rel=>exact ⟨k + 1,by omega,by go_num,hb3,HB⟩
     case measure=>simp [intOf];omega
   ·have E:Hid (sameTs xs ys=true):=same_all (f:=sameT) txnNo rfl (fun _ _ _ _=>rfl) xs ys HL.out (fun j hj=>HA.out j (by omega))
    clear HA
    go_wp2
    go_ret
    rw [E.out]
    exact ⟨rfl,hb⟩

set_option maxRecDepth 100000 in
set_option maxHeartbeats 1000000 in
theorem implSameTxns_any (v v' : Value) (xs ys:List TxnD) (w:World) (h:TxnsAt w v xs) (h' : TxnsAt w v' ys) (hl:xs.length + sumA xs≤1048576) (hl' : ys.length + sumA ys≤1048576) :
  Calls Tryz.prog 49 #[v,v'] w fun e w' => e=.returned (.bool (sameTs xs ys))∧Below w.heap.size w w' := by
 have hq:=equalFunc_any v v' xs ys w h h' hl hl'
 generalize sameTs xs ys=r at hq
 go_enter Tryz.func49,Tryz.ntmps49
 go_wp2_with fail
 refine hq.mono ?_
 rintro e w2 ⟨rfl,hb⟩
 go_wp2
 go_ret
 exact ⟨rfl,hb⟩

end Go.Proofs.YtjjoahhnkpjolaaGreatDoor
namespace Go.Proofs.YtjjoahhnkpjolaaGreatDoor
open Go.RowKit
open Go.BigFrame
set_option maxRecDepth 100000
theorem sameT_ways2 (x y:TxnD):((x.id != y.id)=true∧sameT x y=false)∨((x.id != y.id)=false∧(x.session != y.session)=true∧sameT x y=false)∨((x.id != y.id)=false∧(x.session != y.session)=false∧(x.seq != y.seq)=true∧sameT x y=false) ∨
  ((x.id != y.id)=false∧(x.session != y.session)=false∧(x.seq != y.seq)=false∧((x.acts.length:Int) != (y.acts.length:Int))=true∧sameT x y=false) ∨
  ((x.id != y.id)=false∧(x.session != y.session)=false∧(x.seq != y.seq)=false∧((x.acts.length:Int) != (y.acts.length:Int))=false∧sameT x y=sameAs x.acts y.acts):=by
 by_cases hl:x.acts.length=y.acts.length
 ·rcases sameT_ways x y with ⟨h1,e⟩ | ⟨h1,h2,e⟩ | ⟨h1,h2,h3,e⟩ | ⟨h1,h2,h3,e⟩ <;> simp [bne, *]
 ·have hs:sameAs x.acts y.acts=false:=same_len (f:=sameA) rfl (fun _ _ _ _=>rfl) (fun _ _=>rfl) (fun _ _=>rfl) _ _ hl
  have hl2:¬ ((x.acts.length:Int)=(y.acts.length:Int)):=by omega
  rcases sameT_ways x y with ⟨h1,e⟩ | ⟨h1,h2,e⟩ | ⟨h1,h2,h3,e⟩ | ⟨h1,h2,h3,e⟩ <;> simp [bne, *]

set_option maxRecDepth 100000 in
set_option maxHeartbeats 4000000 in
theorem l2Same_any (x y:TxnD) (b o b' o' : Nat) (a a' : Option Addr) (cap cap' : Nat) (w:World) (hB:Box4 w b o (.int .i64 x.id) (.int .i64 x.session) (.int .i64 x.seq) (.slice a x.acts.length cap)) (hB' : Box4 w b' o' (.int .i64 y.id) (.int .i64 y.session) (.int .i64 y.seq) (.slice a' y.acts.length cap'))
  (h:ActRow w a x.acts) (h' : ActRow w a' y.acts) (hl:x.acts.length≤1048576) (hl' : y.acts.length≤1048576) :
  Calls Tryz.prog 119 #[.pointer (some ⟨b,o,none⟩),.pointer (some ⟨b',o',none⟩)] w fun e w' => e=.returned (.bool (sameT x y))∧Below w.heap.size w w' := by
 obtain ⟨c0,c1,c2,c3⟩:=hB
 obtain ⟨d0,d1,d2,d3⟩:=hB'
 rcases sameT_ways2 x y with ⟨h1,e⟩ | ⟨h1,h2,e⟩ | ⟨h1,h2,h3,e⟩ | ⟨h1,h2,h3,h4,e⟩ | ⟨h1,h2,h3,h4,e⟩ <;> rw [e] <;> clear e <;> obtain ⟨x0,x1,x2,xs⟩:=x <;> obtain ⟨y0,y1,y2,ys⟩:=y <;> dsimp only at *
 ·go_enter Tryz.func119,Tryz.ntmps119
  go_wp2_with fail
  go_quiet (fail)
  go_wp2
  go_ret
  exact ⟨rfl,⟨rfl,rfl,rfl,Nat.le_refl _,fun _ _=>rfl⟩⟩
 ·go_enter Tryz.func119,Tryz.ntmps119
  go_wp2_with fail
  go_quiet (fail)
  go_wp2
  go_ret
  exact ⟨rfl,⟨rfl,rfl,rfl,Nat.le_refl _,fun _ _=>rfl⟩⟩
 ·go_enter Tryz.func119,Tryz.ntmps119
  go_wp2_with fail
  go_quiet (fail)
  go_wp2
  go_ret
  exact ⟨rfl,⟨rfl,rfl,rfl,Nat.le_refl _,fun _ _=>rfl⟩⟩
 ·go_enter Tryz.func119,Tryz.ntmps119
  go_wp2_with fail
  go_quiet (fail)
  go_wp2
  go_ret
  exact ⟨rfl,⟨rfl,rfl,rfl,Nat.le_refl _,fun _ _=>rfl⟩⟩
 ·have hlen:xs.length=ys.length:=by simp at h4;omega
  have HL:Hid (xs.length=ys.length):=hlen
  clear hlen
  go_enter Tryz.func119,Tryz.ntmps119
  go_wp2_with fail
  go_quiet (fail)
  go_wp2
  go_loopw [5] (fun i wr=>∃ k m:Nat,k≤xs.length∧i=.int .i64 k∧wr=w.drewN m∧Hid (∀ j,j < k→sameA (xs.getD j actNo) (ys.getD j actNo)=true)) (fun i _=>xs.length - (intOf i).toNat)
  case atStart=>exact ⟨0,_,Nat.zero_le _,rfl,rfl,fun j hj=>absurd hj (Nat.not_lt_zero _)⟩
  case round=>
   obtain ⟨k,m,hk,rfl,rfl,HA⟩:=hrel
   by_cases hlt:k < xs.length
   ·have hlt' : k < ys.length:=by have:=HL.out;omega
    obtain ⟨bb,off,rfl,hbs,hc0,hc1,hc2⟩:=h.at k hlt
    obtain ⟨bb',off',rfl,hbs',hd0,hd1,hd2⟩:=h'.at k hlt'
    have hr:=eqAct_run (xs.getD k actNo).kind (xs.getD k actNo).key (xs.getD k actNo).val (ys.getD k actNo).kind (ys.getD k actNo).key (ys.getD k actNo).val
    cases hs:sameA (xs.getD k actNo) (ys.getD k actNo)
    case false=>
     have E:Hid (sameAs xs ys=false):=same_bad (f:=sameA) actNo (fun _ _ _ _=>rfl) xs ys k HL.out hlt hs
     rw [show sameA ⟨(xs.getD k actNo).kind,(xs.getD k actNo).key,(xs.getD k actNo).val⟩ ⟨(ys.getD k actNo).kind,(ys.getD k actNo).key,(ys.getD k actNo).val⟩=false from hs,Bool.not_false] at hr
     clear HA hs
     generalize xs.getD k actNo=z at hc0 hc1 hc2 hr
     generalize ys.getD k actNo=z' at hd0 hd1 hd2 hr
     go_wp2
     go_quiet (fail)
     go_wp2
     go_ret
     rw [E.out]
     exact ⟨rfl,⟨rfl,rfl,rfl,Nat.le_refl _,fun _ _=>rfl⟩⟩
    case true=>
     have HB:Hid (∀ j,j < k + 1→sameA (xs.getD j actNo) (ys.getD j actNo)=true):=by
      intro j hj
      by_cases hjk:j=k
      ·subst hjk;exact hs
      ·exact HA.out j (by omega)
     rw [show sameA ⟨(xs.getD k actNo).kind,(xs.getD k actNo).key,(xs.getD k actNo).val⟩ ⟨(ys.getD k actNo).kind,(ys.getD k actNo).key,(ys.getD k actNo).val⟩=true from hs,Bool.not_true] at hr
     clear HA hs
     generalize xs.getD k actNo=z at hc0 hc1 hc2 hr
     generalize ys.getD k actNo=z' at hd0 hd1 hd2 hr
     go_wp2
     go_quiet (fail)
     go_wp2
     go_roundw
     case rel=>exact ⟨k + 1,_,by omega,by go_num,rfl,HB⟩
     case measure=>simp [intOf];omega
   ·have E:Hid (sameAs xs ys=true):=same_all (f:=sameA) actNo rfl (fun _ _ _ _=>rfl) xs ys HL.out (fun j hj=>HA.out j (by omega))
    clear HA
    go_wp2
    go_ret
    rw [E.out]
    exact ⟨rfl,⟨rfl,rfl,rfl,Nat.le_refl _,fun _ _=>rfl⟩⟩

end Go.Proofs.YtjjoahhnkpjolaaGreatDoor
namespace Go.Proofs.YtjjoahhnkpjolaaGreatDoor
open Go.RowKit
open Go.BigFrame
set_option maxRecDepth 100000
set_option maxHeartbeats 4000000 in
theorem specSameTxns_any (v v' : Value) (xs ys:List TxnD) (w:World) (h:TxnsAt w v xs) (h' : TxnsAt w v' ys) (hl:xs.length + sumA xs≤1048576) (hl' : ys.length + sumA ys≤1048576) :
  Calls Tryz.prog 74 #[v,v'] w fun e w' => e=.returned (.bool (sameTs xs ys))∧Below w.heap.size w w' := by
 obtain ⟨a,cap,rfl⟩:=h.shape
 obtain ⟨a',cap',rfl⟩:=h'.shape
 by_cases hlen:xs.length=ys.length
 case neg=>
  have E:sameTs xs ys=false:=same_len (f:=sameT) rfl (fun _ _ _ _=>rfl) (fun _ _=>rfl) (fun _ _=>rfl) xs ys hlen
  rw [E]
  have hd:((xs.length:Int) != (ys.length:Int))=true:=by simp;omega
  go_enter Tryz.func74,Tryz.ntmps74
  go_wp2
  go_ret
  exact ⟨rfl,Below.refl _ _⟩
 case pos=>
  have hd:((xs.length:Int) != (ys.length:Int))=false:=by simp [hlen]
  have HL:Hid (xs.length=ys.length):=hlen
  clear hlen
  go_enter Tryz.func74,Tryz.ntmps74
  go_wp2
  go_loopw [5] (fun i wr=>∃ k:Nat,k≤xs.length∧i=.int .i64 k∧Below w.heap.size w wr∧Hid (∀ j,j < k→sameT (xs.getD j txnNo) (ys.getD j txnNo)=true)) (fun i _=>xs.length - (intOf i).toNat)
  case atStart=>exact ⟨0,Nat.zero_le _,rfl,Below.refl _ _,fun j hj=>absurd hj (Nat.not_lt_zero _)⟩
  case round=>
   obtain ⟨k,hk,rfl,hb,HA⟩:=hrel
   by_cases hlt:k < xs.length
   ·have hlt' : k < ys.length:=by have:=HL.out;omega
    obtain ⟨b,off,aa,cc,rfl,hbs,hc0,hc1,hc2,hc3,hA⟩:=(h.below hb).at k hlt
    obtain ⟨b',off',aa',cc',rfl,hbs',hd0,hd1,hd2,hd3,hA'⟩:=(h'.below hb).at k hlt'
    have hzl:(xs.getD k txnNo).acts.length≤sumA xs:=mem_le_sumA (by simp [List.getD,hlt])
    have hzl' : (ys.getD k txnNo).acts.length≤sumA ys:=mem_le_sumA (by simp [List.getD,hlt'])
    have hBx:Box4 wr b (off + k * 4) _ _ _ _:=⟨hc0,hc1,hc2,hc3⟩
    have hBy:Box4 wr b' (off' + k * 4) _ _ _ _:=⟨hd0,hd1,hd2,hd3⟩
    have hq:=fun (w' : World) (hW:Below wr.heap.size wr w')=>l2Same_any (xs.getD k txnNo) (ys.getD k txnNo) b (off + k * 4) b' (off' + k * 4) aa aa' cc cc' w' (hBx.below hW) (hBy.below hW) (hA.below hW) (hA'.below hW) (by omega) (by omega)
    clear hBx hBy hA hA' hc0 hc1 hc2 hc3 hd0 hd1 hd2 hd3
    cases hs:sameT (xs.getD k txnNo) (ys.getD k txnNo)
    case false=>
     have E:Hid (sameTs xs ys=false):=same_bad (f:=sameT) txnNo (fun _ _ _ _=>rfl) xs ys k HL.out hlt hs
     rw [hs] at hq
     clear HA hs hzl hzl'
     have hW:Below wr.heap.size wr wr.drew:=(Below.refl _ _).drew
     have hne:Nonempty (Lat wr):=⟨⟨wr,Below.refl _ _⟩⟩
     go_wp2_with fail
     refine text_begin (S:=fun w' => ∃ u:Lat wr,w' = u.val) (by kernel_rfl) ?_
     refine sgr [(0,6)] 2 (by kernel_rfl) ⟨⟨_,hW⟩,rfl⟩ ?_
     simp only [pkE]
     repeat go_big_quiet_step (fail)
     refine wpQuiet_nil ?_
     refine cla 6 (some 23) 119 #[.pointer (some ⟨b,off + k * 4,none⟩),.pointer (some ⟨b',off' + k * 4,none⟩)] 1 (by kernel_rfl) ?_
     refine (hq _ hW).mono ?_
     rintro e w2 ⟨rfl,hb2⟩
     replace hW:=hW.trans (hb2.mono hW.size)
     clear hb2 hq
     refine ⟨_,rfl,⟨⟨_,hW⟩,rfl⟩,?_⟩
     simp only [Act.put,pjE]
     refine sgr [(7,1)] 0 (by kernel_rfl) ⟨⟨_,hW⟩,rfl⟩ ?_
     simp only [pkE]
     repeat go_big_quiet_step (fail)
     refine wpQuiet_nil ?_
     refine text_end (by kernel_rfl) ?_
     replace hb:=hb.trans (hW.mono hb.size)
     clear hW hne
     go_wp2
     go_ret
     rw [E.out]
     exact ⟨rfl,hb⟩
    case true=>
     have HB:Hid (∀ j,j < k + 1→sameT (xs.getD j txnNo) (ys.getD j txnNo)=true):=by
      intro j hj
      by_cases hjk:j=k
      ·subst hjk;exact hs
      ·exact HA.out j (by omega)
     rw [hs] at hq
     clear HA hs hzl hzl'
     have hW:Below wr.heap.size wr wr.drew:=(Below.refl _ _).drew
     have hne:Nonempty (Lat wr):=⟨⟨wr,Below.refl _ _⟩⟩
     go_wp2_with fail
     refine text_begin (S:=fun w' => ∃ u:Lat wr,w' = u.val) (by kernel_rfl) ?_
     refine sgr [(0,6)] 2 (by kernel_rfl) ⟨⟨_,hW⟩,rfl⟩ ?_
     simp only [pkE]
     repeat go_big_quiet_step (fail)
     refine wpQuiet_nil ?_
     refine cla 6 (some 23) 119 #[.pointer (some ⟨b,off + k * 4,none⟩),.pointer (some ⟨b',off' + k * 4,none⟩)] 1 (by kernel_rfl) ?_
     refine (hq _ hW).mono ?_
     rintro e w2 ⟨rfl,hb2⟩
     replace hW:=hW.trans (hb2.mono hW.size)
     clear hb2 hq
     refine ⟨_,rfl,⟨⟨_,hW⟩,rfl⟩,?_⟩
     simp only [Act.put,pjE]
     refine sgr [(7,1)] 0 (by kernel_rfl) ⟨⟨_,hW⟩,rfl⟩ ?_
     simp only [pkE]
     repeat go_big_quiet_step (fail)
     refine wpQuiet_nil ?_
     refine text_end (by kernel_rfl) ?_
     replace hb:=hb.trans (hW.mono hb.size)
     clear hW hne
     go_wp2
     go_roundw
     case rel=>exact ⟨k + 1,by omega,by go_num,hb,HB⟩
     case measure=>simp [intOf];omega
   ·have E:Hid (sameTs xs ys=true):=same_all (f:=sameT) txnNo rfl (fun _ _ _ _=>rfl) xs ys HL.out (fun j hj=>HA.out j (by omega))
    clear HA
    go_wp2
    go_ret
    rw [E.out]
    exact ⟨rfl,hb⟩

end Go.Proofs.YtjjoahhnkpjolaaGreatDoor
namespace Go.Proofs.YtjjoahhnkpjolaaGreatDoor
open Go.RowKit
set_option maxRecDepth 100000
def slA' : Value→Option Addr
 | .slice a _ _=>a
 | _=>none

def slK' : Value→Nat
 | .slice _ _ k=>k
 | _=>0

def TxnQ.p' (q:TxnQ):TxnP:=⟨q.e,slA' q.va,slK' q.va⟩

theorem TxnQ.p_cells' {w:World} {q:TxnQ} (h:actK.At w q.va q.acts):q.p'.cells=txnK.cells q:=by
 obtain ⟨a,c,e⟩:=h.shape
 show [_,_,_,_]=[_,_,_,_]
 simp only [TxnP.sl,TxnQ.p',TxnQ.e,e,slA',slK']

theorem txnsAt_of' {w:World} {v:Value} {ps:List TxnQ} (h:txnK.At w v ps):TxnsAt w v (ps.map TxnQ.e):=by
 obtain ⟨a,cap,e,hL,hr⟩:=h
 refine ⟨a,cap,ps.map TxnQ.p',by rw [List.length_map];exact e,by simp only [List.map_map];rfl,?_,?_⟩
 ·have e2:txnCells (ps.map TxnQ.p')=txnK.row ps:=by
   clear hL e
   induction ps with
   | nil=>rfl
   | cons q r ih=>
    have h1:q.p'.cells=txnK.cells q:=TxnQ.p_cells' (hr q (by simp))
    have h2:=ih (fun p hp=>hr p (List.mem_cons_of_mem _ hp))
    show q.p'.cells ++ txnCells (r.map TxnQ.p')=txnK.cells q ++ txnK.row r
    rw [h1,h2]
  rw [e2]
  exact hL
 ·intro p hp
  obtain ⟨q,hq,rfl⟩:=List.mem_map.1 hp
  have h1:actK.At w q.va q.acts:=hr q hq
  obtain ⟨a',c',e',hl',_⟩:=h1
  show ActRow w (slA' q.va) q.acts
  rw [e']
  exact hl'

theorem sumA_of' (ps:List TxnQ):sumA (ps.map TxnQ.e)=nmL TxnQ.n ps:=by
 simp only [sumA,nmL,List.map_map]
 rfl

end Go.Proofs.YtjjoahhnkpjolaaGreatDoor
namespace Go.Proofs.YtjjoahhnkpjolaaGreatDoor
open Go.RowKit
open Go.BigFrame
set_option maxRecDepth 100000
def sameUss:List (List UndoD)→List (List UndoD)→Bool
 | [],[]=>true
 | x :: r,y :: s=>sameUs x y && sameUss r s
 | _,_=>false

theorem uss_get (xs:List USQ) (k:Nat) (hk:k < xs.length):(xs.map USQ.e).getD k []=USQ.e xs[k]:=by simp [List.getD,hk]

theorem us_cell {w:World} {b off k:Nat} {p:USQ} (h:∀ j x,(ussK.cells p)[j]? = some x→w.cell? ⟨b,off + k * ussK.size + j,none⟩=some x):w.cell? ⟨b,off + k,none⟩=some p.va:=by
 have:=h 0 p.va rfl
 rwa [show off + k * ussK.size + 0=off + k from by show off + k * 1 + 0=off + k;omega] at this

set_option maxHeartbeats 4000000 in
theorem equalUss_any (v v' : Value) (xs ys:List USQ) (w:World) (h:ussK.At w v xs) (h' : ussK.At w v' ys) (hl:xs.length + nmL USQ.n xs≤1048576) (hl' : ys.length + nmL USQ.n ys≤1048576) :
  Calls Tryz.prog 178 #[v,v',.func (.func 179) #[] #[]] w fun e w' => e=.returned (.bool (sameUss (xs.map USQ.e) (ys.map USQ.e)))∧Below w.heap.size w w' := by
 obtain ⟨a,cap,rfl⟩:=h.shape
 obtain ⟨a',cap',rfl⟩:=h'.shape
 by_cases hlen:xs.length=ys.length
 case neg=>
  have E:sameUss (xs.map USQ.e) (ys.map USQ.e)=false:=same_len (f:=sameUs) rfl (fun _ _ _ _=>rfl) (fun _ _=>rfl) (fun _ _=>rfl) _ _ (by simpa using hlen)
  rw [E]
  have hd:((xs.length:Int) != (ys.length:Int))=true:=by simp;omega
  go_enter Tryz.func178,Tryz.ntmps178
  go_wp2
  go_ret
  exact ⟨rfl,Below.refl _ _⟩
 case pos=>
  have hd:((xs.length:Int) != (ys.length:Int))=false:=by simp [hlen]
  have HL:Hid (xs.length=ys.length):=hlen
  have HM:Hid ((xs.map USQ.e).length=(ys.map USQ.e).length):=show _=_ by simpa using hlen
  clear hlen
  generalize hE:sameUss (xs.map USQ.e) (ys.map USQ.e)=E
  have HE:Hid (sameUss (xs.map USQ.e) (ys.map USQ.e)=E):=hE
  clear hE
  go_enter Tryz.func178,Tryz.ntmps178
  go_wp2
  go_loopw [17] (fun i wr=>∃ k:Nat,k≤xs.length∧i=.int .i64 k∧Below w.heap.size w wr∧Hid (∀ j,j < k→sameUs ((xs.map USQ.e).getD j []) ((ys.map USQ.e).getD j [])=true)) (fun i _=>xs.length - (intOf i).toNat)
  case atStart=>exact ⟨0,Nat.zero_le _,rfl,Below.refl _ _,fun j hj=>absurd hj (Nat.not_lt_zero _)⟩
  case round=>
   obtain ⟨k,hk,rfl,hb,HA⟩:=hrel
   by_cases hlt:k < xs.length
   ·have hlt' : k < ys.length:=by have:=HL.out;omega
    obtain ⟨b,off,rfl,hbs,hc,hrd⟩:=(h.below hb).cell (by decide) k hlt
    obtain ⟨b',off',rfl,hbs',hd2,hrd'⟩:=(h'.below hb).cell (by decide) k hlt'
    have c0:=us_cell hc
    have d0:=us_cell hd2
    have n1:=nm_le USQ.n xs k hlt
    have n2:=nm_le USQ.n ys k hlt'
    have HY:Hid (sameUs (USQ.e xs[k]) (USQ.e ys[k])=false→E=false):=fun hx=>by
     rw [← HE.out]
     exact same_bad (f:=sameUs) [] (fun _ _ _ _=>rfl) _ _ k HM.out (by simpa using hlt) (by rw [uss_get xs k hlt,uss_get ys k hlt'];exact hx)
    have HN:Hid (sameUs (USQ.e xs[k]) (USQ.e ys[k])=true→∀ j,j < k + 1→sameUs ((xs.map USQ.e).getD j []) ((ys.map USQ.e).getD j [])=true):=fun hx j hj=>by
     by_cases hjk:j=k
     ·subst hjk
      rw [uss_get xs j hlt,uss_get ys j hlt']
      exact hx
     ·exact HA.out j (by omega)
    clear HA hc hd2
    generalize xs[k]=p at *
    generalize ys[k]=q at *
    obtain ⟨pv,pu⟩:=p
    obtain ⟨qv,qu⟩:=q
    replace hrd:undoK.At wr pv pu:=hrd
    replace hrd' : undoK.At wr qv qu:=hrd'
    replace n1:pu.length≤nmL USQ.n xs:=n1
    replace n2:qu.length≤nmL USQ.n ys:=n2
    dsimp only [USQ.e] at c0 d0 HY HN
    obtain ⟨a1,k1,rfl⟩:=hrd.shape
    obtain ⟨b1,m1,rfl⟩:=hrd'.shape
    have hq:=fun w f1 f2=>implSameUndo_any a1 b1 k1 m1 pu qu w f1 f2 (by omega) (by omega)
    have g1:=(undoK_at hrd).2
    have g2:=(undoK_at hrd').2
    generalize sameUs pu qu=X at *
    clear n1 n2 hrd hrd'
    go_wp2_with fail
    refine (hq _ g1 g2).mono ?_
    rintro e w2 ⟨rfl,hb2⟩
    have hb3:=below_from hb hb2
    clear hb2 c0 d0 hq g1 g2
    cases X with
    | false=>
     have E1:Hid (E=false):=HY.out rfl
     clear HY HN HE
     go_wp2
     go_ret
     exact ⟨by rw [E1.out];rfl,hb3⟩
    | true=>
     have R:=HN.out rfl
     have HR:Hid _:=R
     clear HY HN R
     go_wp2
     go_roundw
     case rel=>exact ⟨k + 1,by omega,by go_num,hb3,HR.out⟩
     case measure=>simp [intOf];omega
   ·have E1:Hid (E=true):=by rw [← HE.out];exact same_all (f:=sameUs) [] rfl (fun _ _ _ _=>rfl) _ _ HM.out (fun j hj=>HA.out j (by simpa using (by simpa using hj:j < xs.length) |> fun h=>Nat.lt_of_lt_of_le h (by omega)))
    clear HA HE
    go_wp2
    go_ret
    exact ⟨by rw [E1.out];rfl,hb⟩

set_option maxHeartbeats 4000000 in
theorem l9SameUndos_any (v v' : Value) (xs ys:List USQ) (w:World) (h:ussK.At w v xs) (h' : ussK.At w v' ys) (hl:xs.length + nmL USQ.n xs≤1048576) (hl' : ys.length + nmL USQ.n ys≤1048576) :
  Calls Tryz.prog 163 #[v,v'] w fun e w' => e=.returned (.bool (sameUss (xs.map USQ.e) (ys.map USQ.e)))∧Below w.heap.size w w' := by
 obtain ⟨a,cap,rfl⟩:=h.shape
 obtain ⟨a',cap',rfl⟩:=h'.shape
 by_cases hlen:xs.length=ys.length
 case neg=>
  have E:sameUss (xs.map USQ.e) (ys.map USQ.e)=false:=same_len (f:=sameUs) rfl (fun _ _ _ _=>rfl) (fun _ _=>rfl) (fun _ _=>rfl) _ _ (by simpa using hlen)
  rw [E]
  have hd:((xs.length:Int) != (ys.length:Int))=true:=by simp;omega
  go_enter Tryz.func163,Tryz.ntmps163
  go_wp2
  go_ret
  exact ⟨rfl,Below.refl _ _⟩
 case pos=>
  have hd:((xs.length:Int) != (ys.length:Int))=false:=by simp [hlen]
  have HL:Hid (xs.length=ys.length):=hlen
  have HM:Hid ((xs.map USQ.e).length=(ys.map USQ.e).length):=show _=_ by simpa using hlen
  clear hlen
  generalize hE:sameUss (xs.map USQ.e) (ys.map USQ.e)=E
  have HE:Hid (sameUss (xs.map USQ.e) (ys.map USQ.e)=E):=hE
  clear hE
  go_enter Tryz.func163,Tryz.ntmps163
  go_wp2
  go_loopw [5] (fun i wr=>∃ k:Nat,k≤xs.length∧i=.int .i64 k∧Below w.heap.size w wr∧Hid (∀ j,j < k→sameUs ((xs.map USQ.e).getD j []) ((ys.map USQ.e).getD j [])=true)) (fun i _=>xs.length - (intOf i).toNat)
  case atStart=>exact ⟨0,Nat.zero_le _,rfl,Below.refl _ _,fun j hj=>absurd hj (Nat.not_lt_zero _)⟩
  case round=>
   obtain ⟨k,hk,rfl,hb,HA⟩:=hrel
   by_cases hlt:k < xs.length
   ·have hlt' : k < ys.length:=by have:=HL.out;omega
    obtain ⟨b,off,rfl,hbs,hc,hrd⟩:=(h.below hb).cell (by decide) k hlt
    obtain ⟨b',off',rfl,hbs',hd2,hrd'⟩:=(h'.below hb).cell (by decide) k hlt'
    have c0:=us_cell hc
    have d0:=us_cell hd2
    have n1:=nm_le USQ.n xs k hlt
    have n2:=nm_le USQ.n ys k hlt'
    have HY:Hid (sameUs (USQ.e xs[k]) (USQ.e ys[k])=false→E=false):=fun hx=>by
     rw [← HE.out]
     exact same_bad (f:=sameUs) [] (fun _ _ _ _=>rfl) _ _ k HM.out (by simpa using hlt) (by rw [uss_get xs k hlt,uss_get ys k hlt'];exact hx)
    have HN:Hid (sameUs (USQ.e xs[k]) (USQ.e ys[k])=true→∀ j,j < k + 1→sameUs ((xs.map USQ.e).getD j []) ((ys.map USQ.e).getD j [])=true):=fun hx j hj=>by
     by_cases hjk:j=k
     ·subst hjk
      rw [uss_get xs j hlt,uss_get ys j hlt']
      exact hx
     ·exact HA.out j (by omega)
    clear HA hc hd2
    generalize xs[k]=p at *
    generalize ys[k]=q at *
    obtain ⟨pv,pu⟩:=p
    obtain ⟨qv,qu⟩:=q
    replace hrd:undoK.At wr pv pu:=hrd
    replace hrd' : undoK.At wr qv qu:=hrd'
    replace n1:pu.length≤nmL USQ.n xs:=n1
    replace n2:qu.length≤nmL USQ.n ys:=n2
    dsimp only [USQ.e] at c0 d0 HY HN
    obtain ⟨a1,k1,rfl⟩:=hrd.shape
    obtain ⟨b1,m1,rfl⟩:=hrd'.shape
    have hq:=fun w f1 f2=>specSameUndo_any a1 b1 k1 m1 pu qu w f1 f2 (by omega) (by omega)
    have g1:=(undoK_at hrd).2
    have g2:=(undoK_at hrd').2
    generalize sameUs pu qu=X at *
    clear n1 n2 hrd hrd'
    have hlti:(k:Int) < (xs.length:Int):=by omega
    have hlti' : (k:Int) < (ys.length:Int):=by omega
    replace c0:=lat_cell c0
    replace d0:=lat_cell d0
    have hW:Below wr.heap.size wr wr.drew:=(Below.refl _ _).drew
    have hnn:Nonempty (Lat wr):=⟨⟨wr,Below.refl _ _⟩⟩
    go_wp2_with fail
    refine text_begin (S:=fun w' => ∃ u:Lat wr,w' = u.val) (by kernel_rfl) ?_
    refine sgr [(0,8)] 2 (by kernel_rfl) ⟨⟨_,hW⟩,rfl⟩ ?_
    simp only [pkE]
    repeat go_big_quiet_step (fail)
    refine wpQuiet_nil ?_
    refine cla 8 (some 25) 198 #[.slice a1 pu.length k1,.slice b1 qu.length m1] 1 (by kernel_rfl) ?_
    refine (hq _ (g1.below hW) (g2.below hW)).mono ?_
    rintro e w9 ⟨rfl,hb9⟩
    replace hW:=hW.trans (hb9.mono hW.size)
    clear hb9
    refine ⟨_,rfl,⟨⟨_,hW⟩,rfl⟩,?_⟩
    simp only [Act.put,pjE]
    refine sgr [(9,1)] 0 (by kernel_rfl) ⟨⟨_,hW⟩,rfl⟩ ?_
    simp only [pkE]
    repeat go_big_quiet_step (fail)
    refine wpQuiet_nil ?_
    refine text_end (by kernel_rfl) ?_
    replace hb:=hb.trans (hW.mono hb.size)
    clear hW hnn hq g1 g2 c0 d0
    cases X with
    | false=>
     have E1:Hid (E=false):=HY.out rfl
     clear HY HN HE
     go_wp2
     go_ret
     exact ⟨by rw [E1.out];rfl,hb⟩
    | true=>
     have R:=HN.out rfl
     have HR:Hid _:=R
     clear HY HN R
     go_wp2
     go_roundw
     case rel=>exact ⟨k + 1,by omega,by go_num,hb,HR.out⟩
     case measure=>simp [intOf];omega
   ·have E1:Hid (E=true):=by rw [← HE.out];exact same_all (f:=sameUs) [] rfl (fun _ _ _ _=>rfl) _ _ HM.out (fun j hj=>HA.out j (by simpa using (by simpa using hj:j < xs.length) |> fun h=>Nat.lt_of_lt_of_le h (by omega)))
    clear HA HE
    go_wp2
    go_ret
    exact ⟨by rw [E1.out];rfl,hb⟩

end Go.Proofs.YtjjoahhnkpjolaaGreatDoor

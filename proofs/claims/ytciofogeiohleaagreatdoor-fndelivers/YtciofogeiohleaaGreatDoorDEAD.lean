/- Texts joined,with what the laws reach alone. -/
import Derived.Test.YtciofogeiohleaaGreatDoorDEAC
import Derived.LaidEql
import Derived.Stop.Asserts
import Derived.RowKitTokens
set_option linter.unusedVariables false
set_option linter.unusedSimpArgs false
set_option maxRecDepth 100000
set_option maxHeartbeats 8000000
namespace Go.Proofs.YtciofogeiohleaaGreatDoor
open Go.RowKit Go.BigFrame
section
open Go.Extern.Stop Go.Stop Go.Extern
theorem z8V(t:Value)(w:World):
  Calls Tryz.prog 128 #[.nilIface,t] w fun e w'=>e=.returned (.bool false)∧w'=w:=by
 go_enter Tryz.func128,Tryz.ntmps128
 go_wp2
 go_ret;exact⟨rfl,rfl⟩
theorem z4K(t:Addr)(w:World):(ReflectliteValue.unpack (.iface 190 (.pointer (some t)))).run Tryz.prog w
  =.ok (.agg #[.pointer (some ⟨3,190,none⟩),.pointer (some ⟨w.heap.size,0,none⟩),.int .u64 150]) (w.alloc (.cells #[.pointer (some t)] 190)):=by kernel_rfl
theorem z6p (a : Addr) (w : World) : (ReflectliteValue.methodAny (ReflectliteValue.valueError "reflectlite.Value.Type" 0) (fun t _ _ _ => ReflectliteType.toType t) #[.agg #[.pointer (some ⟨3, 190, none⟩), .pointer (some a), .int .u64 150]]).run Tryz.prog w
  =.ok (.iface 273 (.agg #[.pointer (some ⟨3,190,none⟩)])) w:=by kernel_rfl
theorem z39 (h : Value) (w : World) : (Go.method 245 273 (.agg #[h]) "Kind").run Tryz.prog w = .ok (272, h) w := by kernel_rfl
theorem z6q(w:World):((ReflectliteType.abiMethod fun t=>(fun a:Nat=>Value.int IntKind.u8 (a:Int))<$>Rtype.kind t) #[.pointer (some ⟨3,190,none⟩)]).run Tryz.prog w=.ok (.int .u8 22) w:=by kernel_rfl
theorem z6r(w:World):((ReflectliteType.abiMethod fun t=>(fun a:Nat=>Value.int IntKind.u8 (a:Int))<$>Rtype.kind t) #[.pointer (some ⟨3,188,none⟩)]).run Tryz.prog w=.ok (.int .u8 25) w:=by kernel_rfl
theorem z62(z:Sem Value)(f:TypeId→Addr→Nat→Nat→Sem Value)(v:Value):
  ReflectliteValue.method z f #[v]=(do match←ReflectliteValue.parts v with|none=>z|some (t,a,fl)=>f t a fl (fl % 32)):=rfl
theorem z3C(a:Addr)(w:World):(ReflectliteValue.parts (.agg #[.pointer (some ⟨3,190,none⟩),.pointer (some a),.int .u64 150])).run Tryz.prog w=.ok (some (190,a,150)) w:=by kernel_rfl
theorem z5P(a p:Addr)(W:World)(ha:W.cell? a=some (.pointer (some p))):
  (ReflectliteValue.method (ReflectliteValue.valueError "reflectlite.Value.IsNil" 0) ReflectliteValue.isNil #[.agg #[.pointer (some ⟨3, 190, none⟩), .pointer (some a), .int .u64 150]]).run Tryz.prog W = .ok (.bool false) W := by
 rw[z62];simp only[Sem.run_bind,z3C,Result.andThen];simp[ReflectliteValue.isNil,loadVar,isAgg,underlying,Tryz.underlying190,ha,Result.andThen]
theorem z4a (h : Value) (w : World) : (Go.method 245 273 (.agg #[h]) "Elem").run Tryz.prog w = .ok (283, .agg #[h]) w := by kernel_rfl
theorem z19 (h : Value) (w : World) : (Go.method 245 273 (.agg #[h]) "Implements").run Tryz.prog w = .ok (284, .agg #[h]) w := by kernel_rfl
theorem z1M (h : Value) (w : World) : (Go.method 245 273 (.agg #[h]) "AssignableTo").run Tryz.prog w = .ok (281, .agg #[h]) w := by kernel_rfl
theorem z6s(w:World):(ReflectliteType.method ReflectliteType.elem #[.agg #[.pointer (some ⟨3,190,none⟩)]]).run Tryz.prog w=.ok (.iface 273 (.agg #[.pointer (some ⟨3,188,none⟩)])) w:=by kernel_rfl
theorem z3k (w : World) : (ReflectliteType.relation "Implements" ReflectliteType.implements_ #[.agg #[.pointer (some ⟨3, 188, none⟩)], .iface 273 (.agg #[.pointer (some ⟨3, 107, none⟩)])]).run Tryz.prog w = .ok (.bool true) w := by kernel_rfl
theorem z5k(v:Value)(w:World):(ReflectliteType.typeOf #[.iface 188 v]).run Tryz.prog w=.ok (.iface 273 (.agg #[.pointer (some ⟨3,188,none⟩)])) w:=by kernel_rfl
theorem z3l (w : World) : (ReflectliteType.relation "AssignableTo" ReflectliteType.assignableTo #[.agg #[.pointer (some ⟨3, 188, none⟩)], .iface 273 (.agg #[.pointer (some ⟨3, 188, none⟩)])]).run Tryz.prog w = .ok (.bool true) w := by kernel_rfl
theorem z4L(c:Int)(w:World):(ReflectliteValue.unpack (.iface 188 (.agg #[.int .i64 c]))).run Tryz.prog w
  =.ok (.agg #[.pointer (some ⟨3,188,none⟩),.pointer (some ⟨w.heap.size,0,none⟩),.int .u64 153]) (w.alloc (.cells #[.int .i64 c] 188)):=by kernel_rfl
theorem z5l(w:World):(Rtype.elem? 190).run Tryz.prog w=.ok (some 188) w:=by kernel_rfl
theorem z7O(p:Addr)(w:World):(ReflectliteValue.mk 188 p ReflectliteValue.flagAddr).run Tryz.prog w=.ok (.agg #[.pointer (some ⟨3,188,none⟩),.pointer (some p),.int .u64 409]) w:=by kernel_rfl
theorem z5Q(a p:Addr)(W:World)(ha:W.cell? a=some (.pointer (some p))):
  (ReflectliteValue.method (ReflectliteValue.valueError "reflectlite.Value.Elem" 0) ReflectliteValue.elem #[.agg #[.pointer (some ⟨3, 190, none⟩), .pointer (some a), .int .u64 150]]).run Tryz.prog W
   =.ok (.agg #[.pointer (some ⟨3,188,none⟩),.pointer (some p),.int .u64 409]) W:=by
 rw[z62];simp only[Sem.run_bind,z3C,Result.andThen];simp[ReflectliteValue.elem,loadVar,isAgg,underlying,Tryz.underlying190,ha,Result.andThen,z5l,z7O]
theorem z8p (v x:Value):ReflectliteValue.set #[v,x]=(do
  let(some (dst,a,fl),some (src,b,_)):=(←ReflectliteValue.parts v,←ReflectliteValue.parts x)
   | unsupported (.noEntry "extern/(internal/reflectlite.Value).Set.zeroValue")
  if fl / ReflectliteValue.flagAddr % 2 == 0 then unsupported (.noEntry "extern/(internal/reflectlite.Value).Set.unaddressable")
  let val←loadVar src b
  if←Rtype.directlyAssignable dst src then storeVar dst a val
  else if←Rtype.implements dst src then
   if(←Rtype.kind src)==20 then
    match val with
    | .nilIface => unsupported (.noEntry "extern/reflectlite: a nil value of one interface type handed on as a value of another")
    |_=>storeVar dst a val
   else storeVar dst a (.iface src val)
  else panicString ("reflectlite.Set: value of type " ++ (← Rtype.spelt src) ++ " is not assignable to type " ++ (← Rtype.spelt dst))
  pure (.tuple #[])):=rfl
theorem z5m(a:Addr)(w:World):(ReflectliteValue.parts (.agg #[.pointer (some ⟨3,188,none⟩),.pointer (some a),.int .u64 409])).run Tryz.prog w=.ok (some (188,a,409)) w:=by kernel_rfl
theorem z5R(a:Addr)(w:World):(ReflectliteValue.parts (.agg #[.pointer (some ⟨3,188,none⟩),.pointer (some a),.int .u64 153])).run Tryz.prog w=.ok (some (188,a,153)) w:=by kernel_rfl
theorem z5n(w:World):(Rtype.directlyAssignable 188 188).run Tryz.prog w=.ok true w:=by kernel_rfl
theorem z4p(w:World):(sizeOf 188).run Tryz.prog w=.ok 1 w:=by kernel_rfl
theorem z8W(b:Addr)(c:Int)(W:World)(hb:W.cell? b=some (.int .i64 c)):(loadVar 188 b).run Tryz.prog W=.ok (.agg #[.int .i64 c]) W:=by
 have h1:(loadCells b 1).run Tryz.prog W=.ok #[.int .i64 c] W:=run_loadCells_list (P:=Tryz.prog) (w:=W) b [.int .i64 c] (fun j v hj=>by
  match j,hj with
  | 0,hj=>simp at hj;subst hj;simpa [Addr.add] using hb)
 unfold loadVar;simp only[Sem.run_bind];have h2:(isAgg 188).run Tryz.prog W=.ok true W:=by simp[isAgg,underlying,Tryz.underlying188,Result.andThen]
 rw[h2];simp[Result.andThen,z4p,h1]
theorem z8X(ta:Addr)(c:Int)(old:Value)(W:World)(ht:W.cell? ta=some old)(hf:W.frozen? ta=false):(storeVar 188 ta (.agg #[.int .i64 c])).run Tryz.prog W=.ok () (W.setCell ta (.int .i64 c)):=by
 unfold storeVar;simp[z4p,Value.cells,storeCells,Result.andThen,Addr.add];rw[run_store Tryz.prog W ta _ _ (by rfl)];simp[ht,hf]
theorem z65(ta b:Addr)(c:Int)(old:Value)(W:World)(hb:W.cell? b=some (.int .i64 c))(ht:W.cell? ta=some old)(hf:W.frozen? ta=false):
  (ReflectliteValue.set #[.agg #[.pointer (some ⟨3,188,none⟩),.pointer (some ta),.int .u64 409],.agg #[.pointer (some ⟨3,188,none⟩),.pointer (some b),.int .u64 153]]).run Tryz.prog W
   =.ok (.tuple #[]) (W.setCell ta (.int .i64 c)):=by
 rw[z8p];simp only[Sem.run_bind,z5m,z5R,Result.andThen];simp[ReflectliteValue.flagAddr,Result.andThen,z5n,z8W b c W hb,z8X ta c old W ht hf]
theorem z8Y(c:Int)(t:Addr)(old:Value)(w:World)(hg:w.cell? ⟨1,0,none⟩=some (.iface 273 (.agg #[.pointer (some ⟨3,107,none⟩)])))(ht0:w.cell? t=some old)(hf0:w.frozen? t=false):
  Calls Tryz.prog 128 #[.iface 188 (.agg #[.int .i64 c]),.iface 190 (.pointer (some t))] w fun ev w'=>ev=.returned (.bool true)∧w'=((((w.alloc (.cells #[.pointer (some t)] 190)).alloc (.cells #[.pointer (some ⟨3,190,none⟩),.pointer (some ⟨w.heap.size,0,none⟩),.int .u64 150] 242)).alloc (.cells #[.pointer (some ⟨3,190,none⟩),.pointer (some ⟨w.heap.size,0,none⟩),.int .u64 150] 242)).alloc (.cells #[.int .i64 c] 188)).setCell t (.int .i64 c):=by
 have h6:=@run_callFunc_extern Tryz.prog 177 _ (fun args=>ReflectliteValue.unpack (args.getD 0 (.tuple #[]))) Tryz.func177 (by kernel_rfl) (by kernel_rfl) (by kernel_rfl) (by kernel_rfl);have h7 := @run_callFunc_extern Tryz.prog 178 _ (ReflectliteValue.methodAny (ReflectliteValue.valueError "reflectlite.Value.Type" 0) (fun t _ _ _ => ReflectliteType.toType t)) Tryz.func178 (by kernel_rfl) (by kernel_rfl) (by kernel_rfl) (by kernel_rfl)
 have h8 := @run_callFunc_extern Tryz.prog 179 _ (ReflectliteValue.method (ReflectliteValue.valueError "reflectlite.Value.IsNil" 0) ReflectliteValue.isNil) Tryz.func179 (by kernel_rfl) (by kernel_rfl) (by kernel_rfl) (by kernel_rfl)
 have h27:=@run_callFunc_extern Tryz.prog 272 _ (ReflectliteType.abiMethod fun t=>do pure (.int .u8 (←Rtype.kind t))) Tryz.func272 (by kernel_rfl) (by kernel_rfl) (by kernel_rfl) (by kernel_rfl);have h37:=@run_callFunc_extern Tryz.prog 283 _ (ReflectliteType.method ReflectliteType.elem) Tryz.func283 (by kernel_rfl) (by kernel_rfl) (by kernel_rfl) (by kernel_rfl);have h38 := @run_callFunc_extern Tryz.prog 284 _ (ReflectliteType.relation "Implements" ReflectliteType.implements_) Tryz.func284 (by kernel_rfl) (by kernel_rfl) (by kernel_rfl) (by kernel_rfl)
 have h10:=@run_callFunc_extern Tryz.prog 205 _ ReflectliteType.typeOf Tryz.func205 (by kernel_rfl) (by kernel_rfl) (by kernel_rfl) (by kernel_rfl);have h35 := @run_callFunc_extern Tryz.prog 281 _ (ReflectliteType.relation "AssignableTo" ReflectliteType.assignableTo) Tryz.func281 (by kernel_rfl) (by kernel_rfl) (by kernel_rfl) (by kernel_rfl)
 have h11 := @run_callFunc_extern Tryz.prog 206 _ (ReflectliteValue.method (ReflectliteValue.valueError "reflectlite.Value.Elem" 0) ReflectliteValue.elem) Tryz.func206 (by kernel_rfl) (by kernel_rfl) (by kernel_rfl) (by kernel_rfl)
 have h12:=@run_callFunc_extern Tryz.prog 207 _ ReflectliteValue.set Tryz.func207 (by kernel_rfl) (by kernel_rfl) (by kernel_rfl) (by kernel_rfl);have tO:=z5k;have mA:=z1M;have a25:=z3l;have v25:=z4L;have f6:=z4K;have f7:=z6p;have mK:=z39;have mE:=z4a;have mI:=z19;have k27:=z6q;have k25:=z6r;have e27:=z6s;have i25:=z3k;have n8:=z5P ⟨w.heap.size,0,none⟩ t ((w.alloc (.cells #[.pointer (some t)] 190)).alloc (.cells #[.pointer (some ⟨3,190,none⟩),.pointer (some ⟨w.heap.size,0,none⟩),.int .u64 150] 242)) (by simp);have hlt:1<w.heap.size:=World.block_lt_of_cell? w _ hg;have hg2:((w.alloc (.cells #[.pointer (some t)] 190)).alloc (.cells #[.pointer (some ⟨3,190,none⟩),.pointer (some ⟨w.heap.size,0,none⟩),.int .u64 150] 242)).cell? ⟨1,0,none⟩=some (.iface 273 (.agg #[.pointer (some ⟨3,107,none⟩)])):=by
  rw[World.cell?_alloc_lt _ _ ⟨1,0,none⟩ (by simp only[World.size_alloc];omega),World.cell?_alloc_lt _ _ ⟨1,0,none⟩ hlt];exact hg
 have htl:t.block<w.heap.size:=by
  rcases Nat.lt_or_ge t.block w.heap.size with h|h
  ·exact h
  ·simp[World.cell?,Array.getElem?_eq_none h]at ht0
 have el:=z5Q ⟨w.heap.size,0,none⟩ t (((w.alloc (.cells #[.pointer (some t)] 190)).alloc (.cells #[.pointer (some ⟨3,190,none⟩),.pointer (some ⟨w.heap.size,0,none⟩),.int .u64 150] 242)).alloc (.cells #[.pointer (some ⟨3,190,none⟩),.pointer (some ⟨w.heap.size,0,none⟩),.int .u64 150] 242)) (by rw[World.cell?_alloc_lt _ _ ⟨w.heap.size,0,none⟩ (by simp;omega)];simp);have st:=z65 t ⟨w.heap.size+1+1+1,0,none⟩ c old ((((w.alloc (.cells #[.pointer (some t)] 190)).alloc (.cells #[.pointer (some ⟨3,190,none⟩),.pointer (some ⟨w.heap.size,0,none⟩),.int .u64 150] 242)).alloc (.cells #[.pointer (some ⟨3,190,none⟩),.pointer (some ⟨w.heap.size,0,none⟩),.int .u64 150] 242)).alloc (.cells #[.int .i64 c] 188))
  (by rw[World.cell?_alloc_at _ _ _ _ (by simp)];rfl)
  (by rw[World.cell?_alloc_lt _ _ t (by simp;omega),World.cell?_alloc_lt _ _ t (by simp;omega),World.cell?_alloc_lt _ _ t (by simp;omega),World.cell?_alloc_lt _ _ t htl];exact ht0)
  (by rw[World.frozen?_alloc_old _ _ t (by simp;omega),World.frozen?_alloc_old _ _ t (by simp;omega),World.frozen?_alloc_old _ _ t (by simp;omega),World.frozen?_alloc_old _ _ t (Nat.ne_of_lt htl)];exact hf0)
 go_enter Tryz.func128,Tryz.ntmps128
 go_wp2
 refine wp_loop_rounds 1 ?_;rw[rounds_succ]
 go_wp2
 go_ret;exact⟨rfl,rfl⟩
def ErrT(w:World):Prop:=w.cell? ⟨1,0,none⟩=some (.iface 273 (.agg #[.pointer (some ⟨3,107,none⟩)]))
theorem ErrT.below{w w':World}(h:ErrT w)(hb:Below w.heap.size w w'):ErrT w':=by
 have hlt:1<w.heap.size:=World.block_lt_of_cell? w _ h;exact(hb.cell (p:=⟨1,0,none⟩) hlt).trans h
theorem z6t(w:World):Calls Tryz.prog 73 #[.nilIface] w fun e w'=>e=.returned (.int .i64 0)∧Below w.heap.size w w':=by
 have hB:Below w.heap.size w (w.alloc (.cells #[.int .i64 0] 188)):=by go_grown
 go_enter Tryz.func73,Tryz.ntmps73
 go_wp2_with fail
 refine(z8V _ _).mono ?_;rintro e w1 ⟨rfl,rfl⟩
 go_wp2
 go_ret;exact⟨rfl,hB⟩
theorem z6u(c:Int)(w:World)(hg:ErrT w):Calls Tryz.prog 73 #[.iface 188 (.agg #[.int .i64 c])] w fun e w'=>e=.returned (.int .i64 c)∧Below w.heap.size w w':=by
 have hB:Below w.heap.size w (w.alloc (.cells #[.int .i64 0] 188)):=by go_grown
 have B:=Blk.new w 188 #[.int .i64 0];have h0:=B.cell 0 _ rfl;have hf:=B.frozen 0;have hlt:=B.lt;go_enter Tryz.func73,Tryz.ntmps73
 go_wp2_with fail
 have hg':=hg.below hB;generalize w.alloc (.cells #[.int .i64 0] 188)=W at*;generalize hgs:w.heap.size=g at*;refine(z8Y c ⟨g,0,none⟩ (.int .i64 0) W hg' h0 hf).mono ?_;rintro e w1 ⟨rfl,rfl⟩;have hb2:Below W.heap.size W ((((W.alloc (.cells #[.pointer (some ⟨g,0,none⟩)] 190)).alloc (.cells #[.pointer (some ⟨3,190,none⟩),.pointer (some ⟨W.heap.size,0,none⟩),.int .u64 150] 242)).alloc (.cells #[.pointer (some ⟨3,190,none⟩),.pointer (some ⟨W.heap.size,0,none⟩),.int .u64 150] 242)).alloc (.cells #[.int .i64 c] 188)):=by go_grown
 have B2:=B.below hb2;have hB2:=hB.trans (hb2.mono (by rw[←hgs];exact hB.size));generalize (((W.alloc (.cells #[.pointer (some ⟨g,0,none⟩)] 190)).alloc (.cells #[.pointer (some ⟨3,190,none⟩),.pointer (some ⟨W.heap.size,0,none⟩),.int .u64 150] 242)).alloc (.cells #[.pointer (some ⟨3,190,none⟩),.pointer (some ⟨W.heap.size,0,none⟩),.int .u64 150] 242)).alloc (.cells #[.int .i64 c] 188)=W2 at*;have c3:(W2.setCell ⟨g,0,none⟩ (.int .i64 c)).cell? ⟨g,0,none⟩=some (.int .i64 c):=by
  have:W2.heap[g]?=some (.cells #[.int .i64 0] 188 (0,0)):=B2;simp[World.cell?,World.setCell,Array.getElem?_modify,this]
 have hB3:Below g w (W2.setCell ⟨g,0,none⟩ (.int .i64 c)):=hB2.setCell (p:=⟨g,0,none⟩) (Nat.le_refl _) _;generalize W2.setCell ⟨g,0,none⟩ (.int .i64 c)=W3 at*
 go_wp2
 go_ret;exact⟨rfl,by rw[hgs];exact hB3⟩
end
def z2Q(ds gone:List TxnD):List TxnD:=ds.filter (fun t=>!knw gone t)
def witQ(ps:List TxnQ)(gone:List TxnD):List TxnQ:=ps.filter (fun p=>!knw gone (TxnQ.e p))
theorem z8q(ps:List TxnQ)(gone:List TxnD):(witQ ps gone).map TxnQ.e=z2Q (ps.map TxnQ.e) gone:=by
 induction ps with
 |nil=>rfl
 |cons p r ih=>
  simp only[witQ,z2Q,List.map_cons,List.filter_cons]at ih⊢;split<;>simp[ih]
theorem z7P(ps:List TxnQ)(gone:List TxnD)(k:Nat)(hk:k<ps.length):witQ (ps.take (k+1)) gone=if knw gone (TxnQ.e ps[k])then witQ (ps.take k) gone else witQ (ps.take k) gone++[ps[k]]:=by
 unfold witQ;rw[List.take_succ_eq_append_getElem hk,List.filter_append]
 cases h:knw gone (TxnQ.e ps[k])<;>simp[List.filter_cons,h]
theorem z66(ds:List TxnD)(gone:List TxnD)(k:Nat)(hk:k<ds.length):z2Q (ds.take (k+1)) gone=if knw gone ds[k]then z2Q (ds.take k) gone else z2Q (ds.take k) gone++[ds[k]]:=by
 unfold z2Q;rw[List.take_succ_eq_append_getElem hk,List.filter_append]
 cases h:knw gone ds[k]<;>simp[List.filter_cons,h]
theorem z8r(ps:List TxnQ)(gone:List TxnD)(k:Nat):(witQ (ps.take k) gone).length≤k:=by
 have h1:(witQ (ps.take k) gone).length≤(ps.take k).length:=List.length_filter_le ..;rw[List.length_take]at h1;omega
theorem z7Q(ds:List TxnD)(gone:List TxnD)(k:Nat):(z2Q (ds.take k) gone).length≤k:=by
 have h1:(z2Q (ds.take k) gone).length≤(ds.take k).length:=List.length_filter_le ..;rw[List.length_take]at h1;omega
theorem z67{ps:List TxnQ}{gone:List TxnD}{p:TxnQ}(h:p∈witQ ps gone):p∈ps:=(List.mem_filter.1 h).1
theorem z9d(ps:List TxnQ)(gone:List TxnD):(witQ ps gone).length+nmL TxnQ.n (witQ ps gone)≤ps.length+nmL TxnQ.n ps:=by
 induction ps with
 |nil=>simp[witQ,nmL]
 |cons p r ih=>
  simp only[witQ,List.filter_cons,List.length_cons]at ih⊢;simp only[nmL,List.map_cons,List.sum_cons]at ih⊢;split
  ·simp only[List.length_cons,List.map_cons,List.sum_cons];omega
  ·omega
theorem z68{acc:List TxnD}{t:TxnD}(h:stpF acc t=0):t.F=0∧knw acc t=false:=by
 unfold stpF at h;by_cases h0:t.F=0
 ·rw[if_pos h0]at h;refine⟨h0,?_⟩
  cases hk:knw acc t with
  |false=>rfl
  |true=>rw[hk]at h;exact absurd h (by decide)
 ·rw[if_neg h0]at h;exact absurd h h0
theorem z5o:∀ (r acc:List TxnD),z1v acc r=0→∀t∈r,t.F=0
 |[],_,_,t,ht=>by simp at ht
 |x::r,acc,h,t,ht=>by
  rw[z1v]at h;by_cases h0:stpF acc x=0
  ·rw[if_pos h0]at h;rcases List.mem_cons.1 ht with rfl|ht
   ·exact(z68 h0).1
   ·exact z5o r _ h t ht
  ·rw[if_neg h0]at h;exact absurd h h0
theorem z3D{ds:List TxnD}(h:lstF ds=0):ds.length≤40∧∀t∈ds,t.F=0:=by
 unfold lstF at h;by_cases h4:40<ds.length
 ·rw[if_pos h4]at h;exact absurd h (by decide)
 ·rw[if_neg h4]at h;exact⟨by omega,z5o ds [] h⟩
theorem z8s{t:TxnD}(h:t.F=0):0<t.acts.length:=by
 obtain⟨i,s,q,zs⟩:=t;have h:txnF i s q zs=0:=h;rcases z2r i s q zs with⟨_,e⟩|⟨_,_,e⟩|⟨_,_,_,e⟩|⟨_,_,_,⟨_,e⟩|⟨_,e⟩|⟨h1,_,_⟩⟩
 ·rw[e]at h;exact absurd h (by decide)
 ·rw[e]at h;exact absurd h (by decide)
 ·rw[e]at h;exact absurd h (by decide)
 ·rw[e]at h;exact absurd h (by decide)
 ·rw[e]at h;exact absurd h (by decide)
 ·show 0<zs.length;omega
theorem z08{ds ds':List TxnD}(h:bthF ds ds'=0):lstF ds=0∧lstF ds'=0:=by
 unfold bthF at h;by_cases h0:lstF ds=0
 ·rw[if_pos h0]at h;exact⟨h0,h⟩
 ·rw[if_neg h0]at h;exact absurd h h0
theorem z4M{ps:List TxnQ}(h:lstF (ps.map TxnQ.e)=0):∀p∈ps,0<p.acts.length:=fun p hp=>z8s (t:=TxnQ.e p) ((z3D h).2 _ (List.mem_map.2 ⟨p,hp,rfl⟩))
theorem z5S(v v':Value)(ps gs:List TxnQ)(w:World)(h:txnK.At w v ps)(h':txnK.At w v' gs)(hl:ps.length≤40)(af:gs.length≤1048576):
  Calls Tryz.prog 86 #[v,v'] w fun e w'=>∃v2,e=.returned v2∧w'.ownsRow w.heap.size 44 4 v2 (witQ ps (gs.map TxnQ.e)).length (txnK.row (witQ ps (gs.map TxnQ.e)))∧Below w.heap.size w w':=by
 obtain⟨a,cap,rfl⟩:=h.shape;obtain⟨a',O,rfl⟩:=h'.shape;obtain⟨i0,hi,ag,ah,ai⟩:=info_parts z0O;have U:=fun x a n c w h=>z1r (.slice a' gs.length O) gs x a n c w h af
 generalize gs.map TxnQ.e=gd at*;have X:w.ownsRow w.heap.size 44 4 (.slice none 0 0) (witQ (ps.take 0) gd).length (txnK.row (witQ (ps.take 0) gd)):=World.ownsRow_nil _ _ _ _;go_enter Tryz.func86,Tryz.ntmps86
 go_wp2
 go_loopw[5,10] (fun v j wr=>∃k:Nat,k≤ps.length∧j=.int .i64 k∧wr.ownsRow w.heap.size 44 4 v (witQ (ps.take k) gd).length (txnK.row (witQ (ps.take k) gd))∧Below w.heap.size w wr) (fun _ j _=>ps.length-(intOf j).toNat)
 case atStart=>exact⟨0,Nat.zero_le _,rfl,X,Below.refl _ _⟩
 case round=>
  clear X;obtain⟨k,hk,rfl,hO,hb⟩:=hrel;by_cases V:k<ps.length
  ·have HW:=z7P ps gd k V;have ak:=z8r ps gd k;obtain⟨b,aj,rfl,al,hc,D⟩:=(h.below hb).cell (by decide) k V;have y:∀j x,(txnK.cells ps[k])[j]?=some x→wr.cell? ⟨b,aj+k*4+j,none⟩=some x:=hc;have c0:=y 0 (.int .i64 ps[k].i) rfl;have c1:=y 1 (.int .i64 ps[k].s) rfl;have c2:=y 2 (.int .i64 ps[k].q) rfl;have c3:=y 3 (ps[k].va) rfl;rw[Nat.add_zero]at c0;clear hc y;generalize witQ (ps.take k) gd=qs at*;obtain⟨sa,sc,rfl⟩:=z0b hO;generalize hK:knw gd (TxnQ.e ps[k])=K at*;have HK:Hid (knw gd (TxnQ.e ps[k])=K):=hK;clear hK;generalize ps[k]=p at*;obtain⟨i,s,q,va,d⟩:=p;replace D:actK.At wr va d:=D;obtain⟨aa,ac,rfl⟩:=D.shape;dsimp only[TxnQ.e]at c0 c1 c2 c3 HK;have C:Below wr.heap.size wr (wr.alloc (.cells #[.int .i64 i,.int .i64 s,.int .i64 q,.slice aa d.length ac] 44)):=by go_grown
   have hX:=Blk.new wr 44 #[.int .i64 i,.int .i64 s,.int .i64 q,.slice aa d.length ac];have hq:=U ⟨i,s,q,d⟩ aa d.length ac _ (h'.below (hb.trans (C.mono hb.size)));rw[HK.out]at hq;dsimp only at hq;replace hO:=z0a hO C;replace hb:=hb.trans (C.mono hb.size);have W:(k:Int)<(ps.length:Int):=by omega
   clear C HK D
   go_wp2_with fail
   clear c0 c1 c2 c3;have am:wr.heap.size<(wr.alloc (.cells #[.int .i64 i,.int .i64 s,.int .i64 q,.slice aa d.length ac] 44)).heap.size:=by simp
   generalize wr.heap.size=H at*;generalize wr.alloc (.cells #[.int .i64 i,.int .i64 s,.int .i64 q,.slice aa d.length ac] 44)=Y at*;refine hq.mono ?_;rintro e w2 ⟨rfl,A⟩;replace hO:=z0a hO A;replace hb:=hb.trans (A.mono hb.size);replace hX:=hX.below A;clear hq A
   cases K with
   |true=>
    rw[if_pos rfl]at HW;rw[←HW]at hO;have HH:Hid (w2.ownsRow w.heap.size 44 4 (.slice sa (witQ (ps.take (k+1)) gd).length sc) (witQ (ps.take (k+1)) gd).length (txnK.row (witQ (ps.take (k+1)) gd))):=hO;rw[←HW];clear HW hO
    go_wp2
    go_roundw
    case rel=>exact⟨k+1,by omega,by go_num,HH.out,hb⟩
    case measure=>simp[intOf];omega
   |false=>
    have ab:Hid (witQ (ps.take (k+1)) gd=qs++[(⟨i,s,q,.slice aa d.length ac,d⟩:TxnQ)]):=HW;clear HW;obtain⟨x0,x1,x2,x3⟩:=hX.cel4;have L:Below w2.heap.size w2 (w2.alloc (.cells #[.int .i64 i,.int .i64 s,.int .i64 q,.slice aa d.length ac] 44)):=by go_grown
    have J:=z0a hO L;have M:=hb.trans (L.mono hb.size);have an:=hb.size;clear hO hb hX
    go_wp2_with (at_builtin;refine wpList_append_own_at _ rfl _ _ 27 rfl w.heap.size 44 i0 (.agg #[.int .i64 0,.int .i64 0,.int .i64 0,.slice none 0 0]) 4 48 Tryz.underlying27 hi ag ah ai rfl (by decide) _ qs.length (txnK.row qs) rfl J ⟨w2.heap.size,0,none⟩ 1 1 [.int .i64 i,.int .i64 s,.int .i64 q,.slice aa d.length ac] rfl rfl ?c1 ?c2 ?c3 ?c4 ?c5 ?_)
    all_goals try(case c1=>intro j u hj;match j,hj with|0,hj=>simp at hj;subst hj;simp[Addr.add]|1,hj=>simp at hj;subst hj;simp[Addr.add]|2,hj=>simp at hj;subst hj;simp[Addr.add]|3,hj=>simp at hj;subst hj;simp[Addr.add])
    all_goals try(case c2=>intro u hu;simp at hu;rcases hu with rfl|rfl|rfl|rfl<;>rfl)
    all_goals try(case c3=>unfold maxLen;omega)
    all_goals try(case c4=>omega)
    all_goals try(case c5=>have:=L.size;omega)
    intro v' w5 E z Z T;have I:txnK.row (qs++[(⟨i,s,q,.slice aa d.length ac,d⟩:TxnQ)])=txnK.row qs++[.int .i64 i,.int .i64 s,.int .i64 q,.slice aa d.length ac]:=by simp[Kind.row];rfl
    have N:w5.ownsRow w.heap.size 44 4 v' (witQ (ps.take (k+1)) gd).length (txnK.row (witQ (ps.take (k+1)) gd)):=by rw[ab.out,I,List.length_append];exact E
    have ad:Below w.heap.size w w5:=M.grown z M.size (fun j hj=>by have:=(J.lt j hj).1;omega);clear E z Z T I J M x0 x1 x2 x3
    go_wp2
    go_roundw
    case rel=>exact⟨k+1,by omega,by go_num,N,ad⟩
    case measure=>simp[intOf];omega
  ·have ae:k=ps.length:=by omega
   subst ae;rw[List.take_length]at hO;have W:¬((ps.length:Nat):Int)<(ps.length:Int):=by omega
   go_wp2
   go_ret;exact⟨_,rfl,hO,hb⟩
theorem z2x(v v':Value)(ps gs:List TxnQ)(w:World)(h:txnK.At w v ps)(h':txnK.At w v' gs)(aD:∀p∈ps,0<p.acts.length)(aK:ps.length≤40)(hl:ps.length+nmL TxnQ.n ps≤1048576)(aC:gs.length≤1048576):
  Calls Tryz.prog 70 #[v,v'] w fun e w'=>∃v2 qs,e=.returned v2∧qs.map TxnQ.e=z2Q (ps.map TxnQ.e) (gs.map TxnQ.e)∧txnK.Own w' v2 qs∧(txnK.fp v2 qs).Nodup∧(∀k∈txnK.fp v2 qs,w.heap.size≤k)∧Below w.heap.size w w':=by
 obtain⟨a,cap,rfl⟩:=h.shape;obtain⟨a',af,rfl⟩:=h'.shape;obtain⟨i0,hi,aH,aI,aJ⟩:=info_parts z0O;have ak:=fun b o x va w h hB=>z1j (.slice a' gs.length af) gs b o x va w h hB aC
 generalize gs.map TxnQ.e=gd at*;have ho:=World.ownsRow_lit (e:=44) (size:=4) w #[] 0 (Nat.le_refl _) (by decide) rfl;have am:txnK.Own (w.alloc (.cells #[] 44)) (.slice (some ⟨w.heap.size,0,none⟩) 0 0) ([]:List TxnQ):=⟨(z0y ho).1,fun p hp=>by simp at hp⟩
 have ap:Below w.heap.size w (w.alloc (.cells #[] 44)):=by go_grown
 have Z:Hid ((txnK.fp (.slice (some ⟨w.heap.size,0,none⟩) 0 0) ([]:List TxnQ)).Nodup∧∀k∈txnK.fp (.slice (some ⟨w.heap.size,0,none⟩) 0 0) ([]:List TxnQ),w.heap.size≤k):=by
  refine⟨?_,?_⟩
  ·simp[Kind.fp,blk,Value.ownBlock]
  ·simp[Kind.fp,blk,Value.ownBlock]
 clear ho;go_enter Tryz.func70,Tryz.ntmps70
 go_wp2
 go_loopw[5,6] (fun v j wr=>∃ (k:Nat) (qs:List TxnQ),k≤ps.length∧j=.int .i64 k∧Hid (qs.map TxnQ.e=z2Q ((ps.map TxnQ.e).take k) gd)∧txnK.Own wr v qs∧Hid ((txnK.fp v qs).Nodup∧∀k∈txnK.fp v qs,w.heap.size≤k)∧Below w.heap.size w wr) (fun _ j _=>ps.length-(intOf j).toNat)
 case atStart=>exact⟨0,[],Nat.zero_le _,rfl,(rfl:_=_),am,Z,ap⟩
 case round=>
  clear Z am ap;obtain⟨k,qs,hk,rfl,HE,hO,HN,hb⟩:=hrel;obtain⟨sa,sc,rfl⟩:=hO.shape;have ae:Hid (qs.length≤k):=show _≤_ by
   have h1:=congrArg List.length HE.out;have h2:=z7Q (ps.map TxnQ.e) gd k;rw[List.length_map]at h1;omega
  by_cases M:k<ps.length
  ·obtain⟨b,X,rfl,aM,hc,y⟩:=(h.below hb).cell (by decide) k M;have C:∀j x,(txnK.cells ps[k])[j]?=some x→wr.cell? ⟨b,X+k*4+j,none⟩=some x:=hc;have c0:=C 0 (.int .i64 ps[k].i) rfl;have c1:=C 1 (.int .i64 ps[k].s) rfl;have c2:=C 2 (.int .i64 ps[k].q) rfl;have c3:=C 3 (ps[k].va) rfl;rw[Nat.add_zero]at c0;have W:=z2t TxnQ.n ps k M;have E:=aD _ (List.getElem_mem M);have HW:Hid (z2Q ((ps.map TxnQ.e).take (k+1)) gd=if knw gd (TxnQ.e ps[k])then qs.map TxnQ.e else qs.map TxnQ.e++[TxnQ.e ps[k]]):=show _=_ by
    have:=z66 (ps.map TxnQ.e) gd k (by simpa using M);rw[this,HE.out];simp
   clear hc C HE;generalize hK:knw gd (TxnQ.e ps[k])=K at*;have HK:Hid (knw gd (TxnQ.e ps[k])=K):=hK;clear hK;generalize ps[k]=p at*;obtain⟨i,s,q,va,c⟩:=p;replace y:actK.At wr va c:=y;replace W:c.length≤nmL TxnQ.n ps:=W;obtain⟨aa,ac,rfl⟩:=y.shape;dsimp only at c0 c1 c2 c3 E;obtain⟨ab,ao,az⟩:∃ab ao,aa=some ⟨ab,ao,none⟩:=by
    rcases(z0K y).2 with h0|⟨ab,ao,e,_⟩
    ·have:=z0u c;rw[h0]at this;simp at this;omega
    ·exact⟨ab,ao,e⟩
   subst az;have z:Box4 wr b (X+k*4) (.int .i64 i) (.int .i64 s) (.int .i64 q) (.slice (some ⟨ab,ao,none⟩) c.length ac):=⟨c0,c1,c2,c3⟩
   have hq:=ak b (X+k*4) (TxnQ.e ⟨i,s,q,.slice (some ⟨ab,ao,none⟩) c.length ac,c⟩) _ wr (h'.below hb) z;rw[HK.out]at hq;clear HK c0 c1 c2 c3 ak;have al:(k:Int)<(ps.length:Int):=by omega
   go_wp2_with fail
   refine hq.mono ?_;rintro e w1 ⟨rfl,d⟩;have Y:=hO.lt;replace hO:=hO.below d;replace hb:=hb.trans (d.mono hb.size);replace z:=z.below d;have aN:=d.size
   cases K with
   |true=>
    have av:Hid (qs.map TxnQ.e=z2Q ((ps.map TxnQ.e).take (k+1)) gd):=show _=_ by rw[HW.out];rfl
    clear HW z d
    go_wp2
    go_roundw
    case rel=>exact⟨k+1,qs,by omega,by go_num,av,hO,HN,hb⟩
    case measure=>simp[intOf];omega
   |false=>
    have ad:Hid (∀p':TxnQ,p'.e=(⟨i,s,q,c⟩:TxnD)→(qs++[p']).map TxnQ.e=z2Q ((ps.map TxnQ.e).take (k+1)) gd):=fun p' aE=>by
     rw[HW.out,List.map_append,List.map_singleton,aE];rfl
    clear HW;have ai:=z4m i s q ab ao ac c w1 ((z0K y).2.below d) E (by omega);obtain⟨c0,c1,c2,c3⟩:=z;clear y d
    go_wp2_with fail
    clear c0 c1 c2 c3;have aL:w.heap.size≤w1.heap.size:=hb.size;refine ai.mono ?_;rintro e w2 ⟨a2,c2,rfl,ar,V⟩;replace hO:=hO.below V;replace hb:=hb.trans (V.mono hb.size);obtain⟨o2,aj⟩:=z0y ar;have hP:txnK.own w2 ⟨i,s,q,.slice a2 c.length c2,c⟩:=⟨o2,fun _ _=>trivial⟩
    have A:∀x∈txnK.foot ⟨i,s,q,.slice a2 c.length c2,c⟩,w1.heap.size≤x:=fun x hx=>aj x (by rw[←z0Y (.slice a2 c.length c2) c];exact hx)
    have ah:(txnK.foot ⟨i,s,q,.slice a2 c.length c2,c⟩).Nodup:=by
     show(actK.fp _ _).Nodup;rw[z0Y];exact z0D _
    have J:Below w2.heap.size w2 (w2.alloc (.cells #[.int .i64 i,.int .i64 s,.int .i64 q,.slice a2 c.length c2] 44)):=by go_grown
    have T:=hO.below J;have ag:=txnK.own_out (F:=[]) hP (Out.of_below J) (fun _ _=>by simp);have L:=hb.trans (J.mono hb.size);clear ai ar hO hP aj;have I:=T.1
    go_wp2_with (at_builtin;refine wpList_append_own_at _ rfl _ _ 27 rfl 0 44 i0 (.agg #[.int .i64 0,.int .i64 0,.int .i64 0,.slice none 0 0]) 4 48 Tryz.underlying27 hi aH aI aJ rfl (by decide) _ qs.length (txnK.row qs) rfl I ⟨w2.heap.size,0,none⟩ 1 1 [.int .i64 i,.int .i64 s,.int .i64 q,.slice a2 c.length c2] rfl rfl ?c1 ?c2 ?c3 ?c4 ?c5 ?_)
    all_goals try(case c1=>intro j u hj;match j,hj with|0,hj=>simp at hj;subst hj;simp[Addr.add]|1,hj=>simp at hj;subst hj;simp[Addr.add]|2,hj=>simp at hj;subst hj;simp[Addr.add]|3,hj=>simp at hj;subst hj;simp[Addr.add])
    all_goals try(case c2=>intro u hu;simp at hu;rcases hu with rfl|rfl|rfl|rfl<;>rfl)
    all_goals try(case c3=>have:=ae.out;unfold maxLen;omega)
    all_goals try(case c4=>have:=ae.out;omega)
    all_goals try(case c5=>first|omega|simp)
    intro v' w5 O D aq U;clear aq I;rw[show w2.heap.size+1=(w2.alloc (.cells #[.int .i64 i,.int .i64 s,.int .i64 q,.slice a2 c.length c2] 44)).heap.size from(World.size_alloc _ _).symm]at U;generalize aF:w2.alloc (.cells #[.int .i64 i,.int .i64 s,.int .i64 q,.slice a2 c.length c2] 44)=WA at*;clear aF;obtain⟨ay,an,N,au⟩:=T.snoc HN.out.1 HN.out.2 ag ah (fun x hx aG=>by have:=Y x aG;have:=A x hx;omega) (fun x hx=>by have:=A x hx;omega) L.size O D U;have aA:Below w.heap.size w w5:=Out.keep L au L.size (fun x hx=>HN.out.2 x (by simp only[Kind.fp,List.mem_append];exact Or.inl hx));have aw:Hid ((qs++[(⟨i,s,q,.slice a2 c.length c2,c⟩:TxnQ)]).map TxnQ.e=z2Q ((ps.map TxnQ.e).take (k+1)) gd):=ad.out _ rfl;have ax:Hid ((txnK.fp v' (qs++[(⟨i,s,q,.slice a2 c.length c2,c⟩:TxnQ)])).Nodup∧∀k∈txnK.fp v' (qs++[(⟨i,s,q,.slice a2 c.length c2,c⟩:TxnQ)]),w.heap.size≤k):=⟨an,N⟩
    clear ad HN Y A ah ag T L O D U au an N hb J V W E
    go_wp2
    go_roundw
    case rel=>exact⟨k+1,_,by omega,by go_num,aw,ay,ax,aA⟩
    case measure=>simp[intOf];omega
  ·have aB:k=ps.length:=by omega
   subst aB;have hE:=HE.out;rw[List.take_of_length_le (by simp)]at hE;have al:¬((ps.length:Nat):Int)<(ps.length:Int):=by omega
   clear HE
   go_wp2
   go_ret;first|exact⟨_,qs,rfl,hE,hO,HN.out.1,HN.out.2,hb⟩|exact⟨_,rfl,qs,hE,hO,HN.out.1,HN.out.2,hb⟩
def comN:List TxnD→List TxnD→Nat
 |x::r,y::s=>if z0A x y then comN r s+1 else 0
 |_,_=>0
theorem z5p:∀ (xs ys:List TxnD) (k:Nat),(∀j,j<k→z0A (xs.getD j z0I) (ys.getD j z0I)=true)→k≤xs.length→k≤ys.length→(k=xs.length∨k=ys.length∨z0A (xs.getD k z0I) (ys.getD k z0I)=false)→comN xs ys=k
 |[],ys,k,_,h1,_,_=>by
  have:k=0:=by simpa using h1
  subst this;simp[comN]
 |x::r,[],k,_,_,h2,_=>by
  have:k=0:=by simpa using h2
  subst this;simp[comN]
 |x::r,y::s,0,_,_,_,h=>by
  rcases h with h|h|h
  ·simp at h
  ·simp at h
  ·have:z0A x y=false:=h;simp[comN,this]
 |x::r,y::s,k+1,hA,h1,h2,h=>by
  have h0:z0A x y=true:=hA 0 (by omega);rw [comN,if_pos h0,z5p r s k (fun j hj=>hA (j + 1) (by omega)) (by simpa using h1) (by simpa using h2) (by
   rcases h with h|h|h
   ·exact Or.inl (by simpa using h)
   ·exact Or.inr (Or.inl (by simpa using h))
   ·exact Or.inr (Or.inr h))]
theorem z54(xs ys:List TxnD):comN xs ys≤xs.length∧comN xs ys≤ys.length:=by
 induction xs generalizing ys with
 |nil=>simp[comN]
 |cons x r ih=>
  cases ys with
  |nil=>simp[comN]
  |cons y s=>
   simp only[comN,List.length_cons];have:=ih s;split<;>omega
def cmV(ds ds':List TxnD):Int:=if bthF ds ds'=0 then(comN ds ds':Int)else 0
theorem z3m(v v':Value)(ps c:List TxnQ)(w:World)(h:txnK.At w v ps)(h':txnK.At w v' c)(hl:ps.length+nmL TxnQ.n ps≤1048576)(ah:c.length+nmL TxnQ.n c≤1048576):
  Calls Tryz.prog 85 #[v,v'] w fun e w'=>e=.returned (.agg #[.int .i64 (bthF (ps.map TxnQ.e) (c.map TxnQ.e)),.int .i64 (cmV (ps.map TxnQ.e) (c.map TxnQ.e))])∧Below w.heap.size w w':=by
 have HV:Hid ((bthF (ps.map TxnQ.e) (c.map TxnQ.e)=0→cmV (ps.map TxnQ.e) (c.map TxnQ.e)=(comN (ps.map TxnQ.e) (c.map TxnQ.e):Int))∧(bthF (ps.map TxnQ.e) (c.map TxnQ.e)≠0→cmV (ps.map TxnQ.e) (c.map TxnQ.e)=0)):=⟨fun h0=>if_pos h0,fun h0=>if_neg h0⟩
 have hB:Below w.heap.size w (w.alloc (.cells #[.int .i64 0,.int .i64 0] 38)):=by go_grown
 have Rb:=Blk.new w 38 #[.int .i64 0,.int .i64 0];have hq:=z5h v v' ps c (w.alloc (.cells #[.int .i64 0,.int .i64 0] 38)) (h.below hB) (h'.below hB) hl ah;rw[World.size_alloc]at hq;obtain⟨a,cap,rfl⟩:=h.shape;obtain⟨a',ak,rfl⟩:=h'.shape;generalize bthF (ps.map TxnQ.e) (c.map TxnQ.e)=C at*;generalize cmV (ps.map TxnQ.e) (c.map TxnQ.e)=V at*;go_enter Tryz.func85,Tryz.ntmps85
 go_wp2_with fail
 refine hq.mono ?_;rintro e w1 ⟨rfl,M⟩;rw[←World.size_alloc w (.cells #[.int .i64 0,.int .i64 0] 38)]at M;replace hB:=hB.trans (M.mono hB.size);replace Rb:=Rb.below M;clear hq M;by_cases hC:C=0
 ·have L:Hid (V=(comN (ps.map TxnQ.e) (c.map TxnQ.e):Int)):=HV.out.1 hC;subst hC;clear HV
  go_wp2
  go_loopw[6] (fun j wr=>∃k:Nat,k≤ps.length∧k≤c.length∧j=.int .i64 k∧Below w.heap.size w wr∧Blk wr w.heap.size 38 #[.int .i64 0,.int .i64 0]∧Hid (∀j,j<k→z0A ((ps.map TxnQ.e).getD j z0I) ((c.map TxnQ.e).getD j z0I)=true)) (fun j _=>ps.length-(intOf j).toNat)
  case atStart=>exact⟨0,Nat.zero_le _,Nat.zero_le _,rfl,hB,Rb,fun j hj=>absurd hj (Nat.not_lt_zero _)⟩
  case round=>
   clear hB Rb;obtain⟨k,hk,Z,rfl,hb,Rb,HA⟩:=hrel;obtain⟨mn,ad⟩:∃mn:Nat,mn=min ps.length c.length:=⟨_,rfl⟩
   have D:∀u:Lat wr,(Builtin.min_ #[3,3] 3 #[.int .i64 ps.length,.int .i64 c.length]).run Tryz.prog u.val=.ok (.int .i64 mn) u.val:=fun u=>by
    rw[run_min_int2]
    congr 2
    split<;>omega
   have hW:Below wr.heap.size wr wr.drew:=(Below.refl _ _).drew;have ae:Nonempty (Lat wr):=⟨⟨wr,Below.refl _ _⟩⟩
   by_cases ap:k<mn
   ·have N:k<ps.length:=by omega
    have A:k<c.length:=by omega
    obtain⟨b,ai,rfl,an,Y,J⟩:=(h.below hb).cell (by decide) k N;obtain⟨b',af,rfl,al,O,y⟩:=(h'.below hb).cell (by decide) k A;have E:∀j x,(txnK.cells ps[k])[j]?=some x→wr.cell? ⟨b,ai+k*4+j,none⟩=some x:=Y;have I:∀j x,(txnK.cells c[k])[j]?=some x→wr.cell? ⟨b',af+k*4+j,none⟩=some x:=O;have c0:=E 0 (.int .i64 ps[k].i) rfl;have c1:=E 1 (.int .i64 ps[k].s) rfl;have c2:=E 2 (.int .i64 ps[k].q) rfl;have c3:=E 3 (ps[k].va) rfl;have d0:=I 0 (.int .i64 c[k].i) rfl;have d1:=I 1 (.int .i64 c[k].s) rfl;have d2:=I 2 (.int .i64 c[k].q) rfl;have d3:=I 3 (c[k].va) rfl;rw[Nat.add_zero]at c0 d0;have n1:=z2t TxnQ.n ps k N;have n2:=z2t TxnQ.n c k A;have HY:Hid (z0A (TxnQ.e ps[k]) (TxnQ.e c[k])=false→comN (ps.map TxnQ.e) (c.map TxnQ.e)=k):=fun hx=>z5p _ _ k HA.out (by simpa using hk) (by simpa using Z) (Or.inr (Or.inr (by rw[z03 ps k N,z03 c k A];exact hx)))
    have HN:Hid (z0A (TxnQ.e ps[k]) (TxnQ.e c[k])=true→∀j,j<k+1→z0A ((ps.map TxnQ.e).getD j z0I) ((c.map TxnQ.e).getD j z0I)=true):=fun hx j hj=>by
     by_cases ag:j=k
     ·subst ag;rw[z03 ps j N,z03 c j A];exact hx
     ·exact HA.out j (by omega)
    clear HA Y O E I;generalize hS:z0A (TxnQ.e ps[k]) (TxnQ.e c[k])=S at*;have HS:Hid (z0A (TxnQ.e ps[k]) (TxnQ.e c[k])=S):=hS;clear hS;generalize ps[k]=p at*;generalize c[k]=p' at*;obtain⟨i,s,q,va,z⟩:=p;obtain⟨i',s',q',aj,d⟩:=p';replace J:actK.At wr va z:=J;replace y:actK.At wr aj d:=y;replace n1:z.length≤nmL TxnQ.n ps:=n1;replace n2:d.length≤nmL TxnQ.n c:=n2;obtain⟨aa,ac,rfl⟩:=J.shape;obtain⟨T,U,rfl⟩:=y.shape;have hR:=(z0K J).2;have W:=(z0K y).2;dsimp only[TxnQ.e]at c0 c1 c2 c3 d0 d1 d2 d3 HS;replace c0:=z0q c0;replace c1:=z0q c1;replace c2:=z0q c2;replace c3:=z0q c3;replace d0:=z0q d0;replace d1:=z0q d1;replace d2:=z0q d2;replace d3:=z0q d3;have hq:=fun w h1 h2=>z2v ⟨i,s,q,z⟩ ⟨i',s',q',d⟩ aa T ac U w h1 h2 (by dsimp only;omega) (by dsimp only;omega)
    rw[HS.out]at hq;dsimp only at hq;have ab:(k:Int)<(mn:Int):=by omega
    have ao:(k:Int)<(ps.length:Int):=by omega
    have am:(k:Int)<(c.length:Int):=by omega
    clear HS ad J y
    go_wp2_with fail
    refine z0h (S:=fun w'=>∃u:Lat wr,w'=u.val) (by kernel_rfl) ?_;refine sgr [(0,2),(3,1)] 15 (by kernel_rfl) ⟨⟨_,hW⟩,rfl⟩ ?_;simp only[pkE];repeat go_big_quiet_step (fail)
    refine wpQuiet_nil ?_;refine qta 2 (some 17) (.int .i64 ps.length) 14 (by kernel_rfl) (fun u _=>by kernel_rfl) ⟨⟨_,hW⟩,rfl⟩ ?_;simp only[Act.put,pjE];refine qta 4 (some 19) (.int .i64 c.length) 13 (by kernel_rfl) (fun u _=>by kernel_rfl) ⟨⟨_,hW⟩,rfl⟩ ?_;simp only[Act.put,pjE];refine qta 5 (some 20) (.int .i64 mn) 12 (by kernel_rfl) (fun u hu=>?_) ⟨⟨_,hW⟩,rfl⟩ ?_
    ·obtain⟨u,rfl⟩:=hu;refine Eq.trans (b:=some (((Builtin.min_ #[3,3] 3 #[.int .i64 ps.length,.int .i64 c.length])>>=fun x=>pure (Next.value x):Sem Next).run Tryz.prog u.val)) (by kernel_rfl) ?_;rw[Sem.run_bind,D u];rfl
    simp only[Act.put,pjE];refine sgr [(6,10)] 2 (by kernel_rfl) ⟨⟨_,hW⟩,rfl⟩ ?_;simp only[pkE];repeat go_big_quiet_step (fail)
    refine wpQuiet_nil ?_;refine cla 16 (some 31) 53 #[.agg #[.int .i64 i,.int .i64 s,.int .i64 q,.slice aa z.length ac],.agg #[.int .i64 i',.int .i64 s',.int .i64 q',.slice T d.length U]] 1 (by kernel_rfl) ?_;refine(hq _ (hR.below hW) (W.below hW)).mono ?_;rintro e w9 ⟨rfl,X⟩;replace hW:=hW.trans (X.mono hW.size);clear X;refine⟨_,rfl,⟨⟨_,hW⟩,rfl⟩,?_⟩;simp only[Act.put,pjE];refine sgr [(17,1)] 0 (by kernel_rfl) ⟨⟨_,hW⟩,rfl⟩ ?_;simp only[pkE];repeat go_big_quiet_step (fail)
    refine wpQuiet_nil ?_;refine z0k (by kernel_rfl) ?_;replace hb:=hb.trans (hW.mono hb.size);replace Rb:=Rb.below hW;clear hW ae hq c0 c1 c2 c3 d0 d1 d2 d3 hR W D
    cases S with
    |true=>
     have HR:Hid _:=HN.out rfl;clear HY HN
     go_wp2
     go_roundw
     case rel=>exact⟨k+1,by omega,by omega,by go_num,hb,Rb,HR.out⟩
     case measure=>simp[intOf];omega
    |false=>
     have HR:Hid (V=(k:Int)):=show _=_ by rw[L.out,HY.out rfl]
     obtain⟨q0,q1⟩:=Rb.cel2;obtain⟨f0,f1⟩:=Rb.frz2;clear HY HN L
     go_wp2
     exact bodyPost_ret (v:=.agg #[.int .i64 0,.int .i64 k]) (by simp[results,Tryz.results85,go_sem,q0,q1]) rfl ⟨by rw[HR.out],(hb.setCell (p:=⟨w.heap.size,0,none⟩) (Nat.le_refl _) _).setCell (p:=⟨w.heap.size,1,none⟩) (Nat.le_refl _) _⟩
   ·have ab:¬(k:Int)<(mn:Int):=by omega
    have HR:Hid (V=(k:Int)):=show _=_ by
     rw[L.out,z5p _ _ k HA.out (by simpa using hk) (by simpa using Z) (by rw[List.length_map,List.length_map];omega)]
    clear HA L ad
    go_wp2_with fail
    refine z0h (S:=fun w'=>∃u:Lat wr,w'=u.val) (by kernel_rfl) ?_;refine sgr [(0,2),(3,1)] 15 (by kernel_rfl) ⟨⟨_,hW⟩,rfl⟩ ?_;simp only[pkE];repeat go_big_quiet_step (fail)
    refine wpQuiet_nil ?_;refine qta 2 (some 17) (.int .i64 ps.length) 14 (by kernel_rfl) (fun u _=>by kernel_rfl) ⟨⟨_,hW⟩,rfl⟩ ?_;simp only[Act.put,pjE];refine qta 4 (some 19) (.int .i64 c.length) 13 (by kernel_rfl) (fun u _=>by kernel_rfl) ⟨⟨_,hW⟩,rfl⟩ ?_;simp only[Act.put,pjE];refine qta 5 (some 20) (.int .i64 mn) 12 (by kernel_rfl) (fun u hu=>?_) ⟨⟨_,hW⟩,rfl⟩ ?_
    ·obtain⟨u,rfl⟩:=hu;refine Eq.trans (b:=some (((Builtin.min_ #[3,3] 3 #[.int .i64 ps.length,.int .i64 c.length])>>=fun x=>pure (Next.value x):Sem Next).run Tryz.prog u.val)) (by kernel_rfl) ?_;rw[Sem.run_bind,D u];rfl
    simp only[Act.put,pjE];refine sgr [(6,10)] 2 (by kernel_rfl) ⟨⟨_,hW⟩,rfl⟩ ?_;simp only[pkE];repeat go_big_quiet_step (fail)
    refine wpQuiet_nil ?_;refine ska 16 (some 31) 1 (by kernel_rfl) ⟨⟨_,hW⟩,rfl⟩ ?_;simp only[Act.put,pjE];refine sgr [(17,1)] 0 (by kernel_rfl) ⟨⟨_,hW⟩,rfl⟩ ?_;simp only[pkE];repeat go_big_quiet_step (fail)
    refine wpQuiet_nil ?_;refine z0k (by kernel_rfl) ?_;replace hb:=hb.trans (hW.mono hb.size);replace Rb:=Rb.below hW;clear hW ae D;generalize wr.drew=wd at*;obtain⟨q0,q1⟩:=Rb.cel2;obtain⟨f0,f1⟩:=Rb.frz2
    go_wp2
    exact bodyPost_ret (v:=.agg #[.int .i64 0,.int .i64 k]) (by simp[results,Tryz.results85,go_sem,q0,q1]) rfl ⟨by rw[HR.out],(hb.setCell (p:=⟨w.heap.size,0,none⟩) (Nat.le_refl _) _).setCell (p:=⟨w.heap.size,1,none⟩) (Nat.le_refl _) _⟩
 ·have HR:Hid (V=0):=HV.out.2 hC;obtain⟨q0,q1⟩:=Rb.cel2;obtain⟨f0,f1⟩:=Rb.frz2;clear HV
  go_wp2
  exact bodyPost_ret (v:=.agg #[.int .i64 C,.int .i64 0]) (by simp[results,Tryz.results85,go_sem,q0,q1]) rfl ⟨by rw[HR.out],(hB.setCell (p:=⟨w.heap.size,0,none⟩) (Nat.le_refl _) _).setCell (p:=⟨w.heap.size,1,none⟩) (Nat.le_refl _) _⟩
theorem z5q(v v':Value)(ps c:List TxnQ)(w:World)(h:txnK.At w v ps)(h':txnK.At w v' c)(hl:ps.length+nmL TxnQ.n ps≤1048576)(am:c.length+nmL TxnQ.n c≤1048576):
  Calls Tryz.prog 190 #[v,v'] w fun e w'=>e=.returned (.int .i64 (comN (ps.map TxnQ.e) (c.map TxnQ.e)))∧Below w.heap.size w w':=by
 obtain⟨a,cap,rfl⟩:=h.shape;obtain⟨a',aj,rfl⟩:=h'.shape;obtain⟨V,hV⟩:∃V:Int,V=(comN (ps.map TxnQ.e) (c.map TxnQ.e):Int):=⟨_,rfl⟩
 have L:Hid (V=(comN (ps.map TxnQ.e) (c.map TxnQ.e):Int)):=hV;rw[←hV];clear hV;go_enter Tryz.func190,Tryz.ntmps190
 go_wp2
 go_loopw[5] (fun j wr=>∃k:Nat,k≤ps.length∧k≤c.length∧j=.int .i64 k∧Below w.heap.size w wr∧Hid (∀j,j<k→z0A ((ps.map TxnQ.e).getD j z0I) ((c.map TxnQ.e).getD j z0I)=true)) (fun j _=>ps.length-(intOf j).toNat)
 case atStart=>exact⟨0,Nat.zero_le _,Nat.zero_le _,rfl,Below.refl _ _,fun j hj=>absurd hj (Nat.not_lt_zero _)⟩
 case round=>
   obtain⟨k,hk,ad,rfl,hb,HA⟩:=hrel;have hW:Below wr.heap.size wr wr.drew:=(Below.refl _ _).drew;have T:Nonempty (Lat wr):=⟨⟨wr,Below.refl _ _⟩⟩
   by_cases ah:k<ps.length∧k<c.length
   ·obtain⟨I,y⟩:=ah;obtain⟨b,M,rfl,al,ab,J⟩:=(h.below hb).cell (by decide) k I;obtain⟨b',C,rfl,ak,O,z⟩:=(h'.below hb).cell (by decide) k y;have D:∀j x,(txnK.cells ps[k])[j]?=some x→wr.cell? ⟨b,M+k*4+j,none⟩=some x:=ab;have E:∀j x,(txnK.cells c[k])[j]?=some x→wr.cell? ⟨b',C+k*4+j,none⟩=some x:=O;have c0:=D 0 (.int .i64 ps[k].i) rfl;have c1:=D 1 (.int .i64 ps[k].s) rfl;have c2:=D 2 (.int .i64 ps[k].q) rfl;have c3:=D 3 (ps[k].va) rfl;have d0:=E 0 (.int .i64 c[k].i) rfl;have d1:=E 1 (.int .i64 c[k].s) rfl;have d2:=E 2 (.int .i64 c[k].q) rfl;have d3:=E 3 (c[k].va) rfl;rw[Nat.add_zero]at c0 d0;have n1:=z2t TxnQ.n ps k I;have n2:=z2t TxnQ.n c k y;have HY:Hid (z0A (TxnQ.e ps[k]) (TxnQ.e c[k])=false→comN (ps.map TxnQ.e) (c.map TxnQ.e)=k):=fun hx=>z5p _ _ k HA.out (by simpa using hk) (by simpa using ad) (Or.inr (Or.inr (by rw[z03 ps k I,z03 c k y];exact hx)))
    have HN:Hid (z0A (TxnQ.e ps[k]) (TxnQ.e c[k])=true→∀j,j<k+1→z0A ((ps.map TxnQ.e).getD j z0I) ((c.map TxnQ.e).getD j z0I)=true):=fun hx j hj=>by
     by_cases ag:j=k
     ·subst ag;rw[z03 ps j I,z03 c j y];exact hx
     ·exact HA.out j (by omega)
    clear HA ab O D E;generalize hS:z0A (TxnQ.e ps[k]) (TxnQ.e c[k])=S at*;have HS:Hid (z0A (TxnQ.e ps[k]) (TxnQ.e c[k])=S):=hS;clear hS;generalize ps[k]=p at*;generalize c[k]=p' at*;obtain⟨i,s,q,va,A⟩:=p;obtain⟨i',s',q',ai,d⟩:=p';replace J:actK.At wr va A:=J;replace z:actK.At wr ai d:=z;replace n1:A.length≤nmL TxnQ.n ps:=n1;replace n2:d.length≤nmL TxnQ.n c:=n2;obtain⟨aa,ac,rfl⟩:=J.shape;obtain⟨U,W,rfl⟩:=z.shape;have hR:=(z0K J).2;have Y:=(z0K z).2;dsimp only[TxnQ.e]at c0 c1 c2 c3 d0 d1 d2 d3 HS;have X:Box4 wr b (M+k*4) (.int .i64 i) (.int .i64 s) (.int .i64 q) (.slice aa A.length ac):=⟨c0,c1,c2,c3⟩
    have N:Box4 wr b' (C+k*4) (.int .i64 i') (.int .i64 s') (.int .i64 q') (.slice U d.length W):=⟨d0,d1,d2,d3⟩
    have hq:=fun w h1 h2 h3 h4=>z4o ⟨i,s,q,A⟩ ⟨i',s',q',d⟩ b (M+k*4) b' (C+k*4) aa U ac W w h1 h2 h3 h4 (by dsimp only;omega) (by dsimp only;omega)
    rw[HS.out]at hq;dsimp only at hq;have ae:(k:Int)<(ps.length:Int):=by omega
    have af:(k:Int)<(c.length:Int):=by omega
    clear HS J z c0 c1 c2 c3 d0 d1 d2 d3
    go_wp2_with fail
    refine z0h (S:=fun w'=>∃u:Lat wr,w'=u.val) (by kernel_rfl) ?_;refine sgr [(0,2)] 17 (by kernel_rfl) ⟨⟨_,hW⟩,rfl⟩ ?_;simp only[pkE];repeat go_big_quiet_step (fail)
    refine wpQuiet_nil ?_;refine qta 2 (some 8) (.int .i64 ps.length) 16 (by kernel_rfl) (fun u _=>by kernel_rfl) ⟨⟨_,hW⟩,rfl⟩ ?_;simp only[Act.put,pjE];refine sgr [(3,4)] 12 (by kernel_rfl) ⟨⟨_,hW⟩,rfl⟩ ?_;simp only[pkE];repeat go_big_quiet_step (fail)
    refine wpQuiet_nil ?_;refine qta 7 (some 13) (.int .i64 c.length) 11 (by kernel_rfl) (fun u _=>by kernel_rfl) ⟨⟨_,hW⟩,rfl⟩ ?_;simp only[Act.put,pjE];refine sgr [(8,9)] 2 (by kernel_rfl) ⟨⟨_,hW⟩,rfl⟩ ?_;simp only[pkE];repeat go_big_quiet_step (fail)
    refine wpQuiet_nil ?_;refine cla 17 (some 23) 160 #[.pointer (some ⟨b,M+k*4,none⟩),.pointer (some ⟨b',C+k*4,none⟩)] 1 (by kernel_rfl) ?_;refine(hq _ (X.below hW) (N.below hW) (hR.below hW) (Y.below hW)).mono ?_;rintro e w9 ⟨rfl,Z⟩;replace hW:=hW.trans (Z.mono hW.size);clear Z;refine⟨_,rfl,⟨⟨_,hW⟩,rfl⟩,?_⟩;simp only[Act.put,pjE];refine sgr [(18,1)] 0 (by kernel_rfl) ⟨⟨_,hW⟩,rfl⟩ ?_;simp only[pkE];repeat go_big_quiet_step (fail)
    refine wpQuiet_nil ?_;refine z0k (by kernel_rfl) ?_;replace hb:=hb.trans (hW.mono hb.size);clear hW T hq X N hR Y
    cases S with
    |true=>
     have HR:Hid _:=HN.out rfl;clear HY HN
     go_wp2
     go_roundw
     case rel=>exact⟨k+1,by omega,by omega,by go_num,hb,HR.out⟩
     case measure=>simp[intOf];omega
    |false=>
     have HR:Hid (V=(k:Int)):=show _=_ by rw[L.out,HY.out rfl]
     clear HY HN L
     go_wp2
     go_ret;exact⟨by rw[HR.out];rfl,hb⟩
   ·have HR:Hid (V=(k:Int)):=show _=_ by
     rw[L.out,z5p _ _ k HA.out (by simpa using hk) (by simpa using ad) (by rw[List.length_map,List.length_map];omega)]
    clear HA L;by_cases I:k<ps.length
    ·have ae:(k:Int)<(ps.length:Int):=by omega
     have y:¬k<c.length:=by omega
     have af:¬(k:Int)<(c.length:Int):=by omega
     go_wp2_with fail
     refine z0h (S:=fun w'=>∃u:Lat wr,w'=u.val) (by kernel_rfl) ?_;refine sgr [(0,2)] 17 (by kernel_rfl) ⟨⟨_,hW⟩,rfl⟩ ?_;simp only[pkE];repeat go_big_quiet_step (fail)
     refine wpQuiet_nil ?_;refine qta 2 (some 8) (.int .i64 ps.length) 16 (by kernel_rfl) (fun u _=>by kernel_rfl) ⟨⟨_,hW⟩,rfl⟩ ?_;simp only[Act.put,pjE];refine sgr [(3,4)] 12 (by kernel_rfl) ⟨⟨_,hW⟩,rfl⟩ ?_;simp only[pkE];repeat go_big_quiet_step (fail)
     refine wpQuiet_nil ?_;refine qta 7 (some 13) (.int .i64 c.length) 11 (by kernel_rfl) (fun u _=>by kernel_rfl) ⟨⟨_,hW⟩,rfl⟩ ?_;simp only[Act.put,pjE];refine sgr [(8,9)] 2 (by kernel_rfl) ⟨⟨_,hW⟩,rfl⟩ ?_;simp only[pkE];repeat go_big_quiet_step (fail)
     refine wpQuiet_nil ?_;refine ska 17 (some 23) 1 (by kernel_rfl) ⟨⟨_,hW⟩,rfl⟩ ?_;simp only[Act.put,pjE];refine sgr [(18,1)] 0 (by kernel_rfl) ⟨⟨_,hW⟩,rfl⟩ ?_;simp only[pkE];repeat go_big_quiet_step (fail)
     refine wpQuiet_nil ?_;refine z0k (by kernel_rfl) ?_;replace hb:=hb.trans (hW.mono hb.size);clear hW T
     go_wp2
     go_ret;exact⟨by rw[HR.out];rfl,hb⟩
    ·have ae:¬(k:Int)<(ps.length:Int):=by omega
     go_wp2_with fail
     refine z0h (S:=fun w'=>∃u:Lat wr,w'=u.val) (by kernel_rfl) ?_;refine sgr [(0,2)] 17 (by kernel_rfl) ⟨⟨_,hW⟩,rfl⟩ ?_;simp only[pkE];repeat go_big_quiet_step (fail)
     refine wpQuiet_nil ?_;refine qta 2 (some 8) (.int .i64 ps.length) 16 (by kernel_rfl) (fun u _=>by kernel_rfl) ⟨⟨_,hW⟩,rfl⟩ ?_;simp only[Act.put,pjE];refine sgr [(3,4)] 12 (by kernel_rfl) ⟨⟨_,hW⟩,rfl⟩ ?_;simp only[pkE];repeat go_big_quiet_step (fail)
     refine wpQuiet_nil ?_;refine ska 7 (some 13) 11 (by kernel_rfl) ⟨⟨_,hW⟩,rfl⟩ ?_;simp only[Act.put,pjE];refine sgr [(8,9)] 2 (by kernel_rfl) ⟨⟨_,hW⟩,rfl⟩ ?_;simp only[pkE];repeat go_big_quiet_step (fail)
     refine wpQuiet_nil ?_;refine ska 17 (some 23) 1 (by kernel_rfl) ⟨⟨_,hW⟩,rfl⟩ ?_;simp only[Act.put,pjE];refine sgr [(18,1)] 0 (by kernel_rfl) ⟨⟨_,hW⟩,rfl⟩ ?_;simp only[pkE];repeat go_big_quiet_step (fail)
     refine wpQuiet_nil ?_;refine z0k (by kernel_rfl) ?_;replace hb:=hb.trans (hW.mono hb.size);clear hW T
     go_wp2
     go_ret;exact⟨by rw[HR.out];rfl,hb⟩
def plN(ds ds':List TxnD):Int:=if bthF ds ds'=0 then(comN ds ds':Int)else 0
def plB(ds ds':List TxnD):Int:=if bthF ds ds'=0 then(if ds'.drop (comN ds ds')=[]then 0 else((ds.drop (comN ds ds')).length:Int))else 0
def plA(ds ds':List TxnD):List TxnD:=if bthF ds ds'=0 then ds'.drop (comN ds ds')else []
def plK(ds ds':List TxnD):List TxnD:=if bthF ds ds'=0 then(if ds'.drop (comN ds ds')=[]then ds.drop (comN ds ds')else z2Q (ds.drop (comN ds ds')) ds')else []
theorem z8c{ds ds':List TxnD}(h:bthF ds ds'≠0):plN ds ds'=0∧plB ds ds'=0∧plA ds ds'=[]∧plK ds ds'=[]:=⟨if_neg h,if_neg h,if_neg h,if_neg h⟩
theorem z69{ds ds':List TxnD}(h:bthF ds ds'=0)(h1:ds'.drop (comN ds ds')=[]):plN ds ds'=(comN ds ds':Int)∧plB ds ds'=0∧plA ds ds'=[]∧plK ds ds'=ds.drop (comN ds ds'):=by
 unfold plN plB plA plK;rw[if_pos h,if_pos h,if_pos h,if_pos h,if_pos h1,if_pos h1,h1];exact⟨rfl,rfl,rfl,rfl⟩
theorem z8d{ds ds':List TxnD}(h:bthF ds ds'=0)(h1:ds'.drop (comN ds ds')≠[]):plN ds ds'=(comN ds ds':Int)∧plB ds ds'=((ds.drop (comN ds ds')).length:Int)∧plA ds ds'=ds'.drop (comN ds ds')∧plK ds ds'=z2Q (ds.drop (comN ds ds')) ds':=by
 unfold plN plB plA plK;rw[if_pos h,if_pos h,if_pos h,if_pos h,if_neg h1,if_neg h1];exact⟨rfl,rfl,rfl,rfl⟩
theorem z55(ps:List TxnQ)(n:Nat):(ps.drop n).length+nmL TxnQ.n (ps.drop n)≤ps.length+nmL TxnQ.n ps:=by
 have e:nmL TxnQ.n ps=nmL TxnQ.n (ps.take n)+nmL TxnQ.n (ps.drop n):=by
  conv=>lhs;rw[←List.take_append_drop n ps]
  simp only[nmL,List.map_append,List.sum_append]
 rw[List.length_drop];omega
theorem z3E:(Tryz.prog.info? 67).map (·.size)=some 5:=by kernel_rfl
theorem z2d(w:World):txnK.Own w (.slice none 0 0) ([]:List TxnQ)∧txnK.fp (.slice none 0 0) ([]:List TxnQ)=[]:=Kind.own_nil (K:=txnK) w
theorem z2e(v v':Value)(ps c:List TxnQ)(w:World)(h:txnK.At w v ps)(h':txnK.At w v' c)(be:z2k v)(aP:z2k v')(hl:ps.length+nmL TxnQ.n ps≤1048576)(bg:c.length+nmL TxnQ.n c≤1048576):
  Calls Tryz.prog 31 #[v,v'] w fun e w'=>∃ (v1 v2:Value) (q1 q2:List TxnQ),e=.returned (.agg #[.int .i64 (bthF (ps.map TxnQ.e) (c.map TxnQ.e)),.int .i64 (plN (ps.map TxnQ.e) (c.map TxnQ.e)),.int .i64 (plB (ps.map TxnQ.e) (c.map TxnQ.e)),v1,v2])∧q1.map TxnQ.e=plA (ps.map TxnQ.e) (c.map TxnQ.e)∧q2.map TxnQ.e=plK (ps.map TxnQ.e) (c.map TxnQ.e)∧txnK.Own w' v1 q1∧txnK.Own w' v2 q2∧(txnK.fp v1 q1++txnK.fp v2 q2).Nodup∧(∀k∈txnK.fp v1 q1++txnK.fp v2 q2,w.heap.size≤k)∧Below w.heap.size w w':=by
 have HV:Hid (bthF (ps.map TxnQ.e) (c.map TxnQ.e)≠0→plN (ps.map TxnQ.e) (c.map TxnQ.e)=0∧plB (ps.map TxnQ.e) (c.map TxnQ.e)=0∧plA (ps.map TxnQ.e) (c.map TxnQ.e)=[]∧plK (ps.map TxnQ.e) (c.map TxnQ.e)=[]):=fun h0=>z8c h0
 have aB:Hid (bthF (ps.map TxnQ.e) (c.map TxnQ.e)=0→(c.map TxnQ.e).drop (comN (ps.map TxnQ.e) (c.map TxnQ.e))=[]→plN (ps.map TxnQ.e) (c.map TxnQ.e)=(comN (ps.map TxnQ.e) (c.map TxnQ.e):Int)∧plB (ps.map TxnQ.e) (c.map TxnQ.e)=0∧plA (ps.map TxnQ.e) (c.map TxnQ.e)=[]∧plK (ps.map TxnQ.e) (c.map TxnQ.e)=(ps.map TxnQ.e).drop (comN (ps.map TxnQ.e) (c.map TxnQ.e))):=fun h0 h1=>z69 h0 h1
 have aC:Hid (bthF (ps.map TxnQ.e) (c.map TxnQ.e)=0→(c.map TxnQ.e).drop (comN (ps.map TxnQ.e) (c.map TxnQ.e))≠[]→plN (ps.map TxnQ.e) (c.map TxnQ.e)=(comN (ps.map TxnQ.e) (c.map TxnQ.e):Int)∧plB (ps.map TxnQ.e) (c.map TxnQ.e)=(((ps.map TxnQ.e).drop (comN (ps.map TxnQ.e) (c.map TxnQ.e))).length:Int)∧plA (ps.map TxnQ.e) (c.map TxnQ.e)=(c.map TxnQ.e).drop (comN (ps.map TxnQ.e) (c.map TxnQ.e))∧plK (ps.map TxnQ.e) (c.map TxnQ.e)=z2Q ((ps.map TxnQ.e).drop (comN (ps.map TxnQ.e) (c.map TxnQ.e))) (c.map TxnQ.e)):=fun h0 h1=>z8d h0 h1
 have HL:Hid (bthF (ps.map TxnQ.e) (c.map TxnQ.e)=0→ps.length≤40∧c.length≤40∧(∀p∈ps,0<p.acts.length)∧(∀p∈c,0<p.acts.length)):=fun h0=>⟨by simpa using(z3D (z08 h0).1).1,by simpa using(z3D (z08 h0).2).1,z4M (z08 h0).1,z4M (z08 h0).2⟩
 have bi:comN (ps.map TxnQ.e) (c.map TxnQ.e)≤ps.length:=by simpa using(z54 (ps.map TxnQ.e) (c.map TxnQ.e)).1
 have bj:comN (ps.map TxnQ.e) (c.map TxnQ.e)≤c.length:=by simpa using(z54 (ps.map TxnQ.e) (c.map TxnQ.e)).2
 have aA:Hid (bthF (ps.map TxnQ.e) (c.map TxnQ.e)=0→cmV (ps.map TxnQ.e) (c.map TxnQ.e)=(comN (ps.map TxnQ.e) (c.map TxnQ.e):Int)):=fun h0=>if_pos h0
 have hB:Below w.heap.size w (w.alloc (.cells #[.int .i64 0,.int .i64 0,.int .i64 0,.slice none 0 0,.slice none 0 0] 67)):=by go_grown
 have Rb:=Blk.new w 67 #[.int .i64 0,.int .i64 0,.int .i64 0,.slice none 0 0,.slice none 0 0];have hq:=z3m v v' ps c (w.alloc (.cells #[.int .i64 0,.int .i64 0,.int .i64 0,.slice none 0 0,.slice none 0 0] 67)) (h.below hB) (h'.below hB) hl bg;obtain⟨a,cap,rfl⟩:=h.shape;obtain⟨a',D,rfl⟩:=h'.shape;generalize bthF (ps.map TxnQ.e) (c.map TxnQ.e)=C at*;generalize plN (ps.map TxnQ.e) (c.map TxnQ.e)=VN at*;generalize plB (ps.map TxnQ.e) (c.map TxnQ.e)=VB at*;generalize plA (ps.map TxnQ.e) (c.map TxnQ.e)=VA at*;generalize plK (ps.map TxnQ.e) (c.map TxnQ.e)=VK at*;generalize cmV (ps.map TxnQ.e) (c.map TxnQ.e)=CV at*;go_enter Tryz.func31,Tryz.ntmps31
 go_wp2_with fail
 refine hq.mono ?_;rintro e w1 ⟨rfl,aH⟩;replace hB:=hB.trans (aH.mono hB.size);replace Rb:=Rb.below aH;clear hq aH;have aI:Below w1.heap.size w1 (w1.alloc (.cells #[.int .i64 C,.int .i64 CV] 38)):=by go_grown
 have Cb:=Blk.new w1 38 #[.int .i64 C,.int .i64 CV];have br:=hB;replace hB:=hB.trans (aI.mono hB.size);have bu:w.heap.size<w1.heap.size:=Rb.lt;have bp:=Rb;replace Rb:=Rb.below aI;clear aI;by_cases hC:C=0
 ·have ap:=aB.out hC;have aq:=aC.out hC;have aD:Hid _:=ap;have aE:Hid _:=aq;have bf:=aA.out hC;obtain⟨bq,bn,aT,aL⟩:=HL.out hC;subst hC;subst bf;clear HV aB aC ap aq aA HL;generalize comN (ps.map TxnQ.e) (c.map TxnQ.e)=n at*;have aJ:=fun w (h:txnK.At w (.slice a ps.length cap) ps) c'=>h.dropS n bi be.1 c'
  have aK:=fun w (h:txnK.At w (.slice a' c.length D) c) c'=>h.dropS n bj aP.1 c'
  obtain⟨rs,M⟩:∃rs,rs=ps.drop n:=⟨_,rfl⟩
  obtain⟨z,I⟩:∃z,z=c.drop n:=⟨_,rfl⟩
  have aM:Hid (rs.map TxnQ.e=(ps.map TxnQ.e).drop n):=show _=_ by rw[M,List.map_drop]
  have N:Hid (z.map TxnQ.e=(c.map TxnQ.e).drop n):=show _=_ by rw[I,List.map_drop]
  have bh:rs.length+nmL TxnQ.n rs≤1048576:=by rw[M];have:=z55 ps n;omega
  have aQ:z.length+nmL TxnQ.n z≤1048576:=by rw[I];have:=z55 c n;omega
  have aU:∀p∈rs,0<p.acts.length:=fun p hp=>aT p (List.mem_of_mem_drop (by rw[←M];exact hp))
  have aV:∀p∈z,0<p.acts.length:=fun p hp=>aL p (List.mem_of_mem_drop (by rw[←I];exact hp))
  have ab:rs.length=ps.length-n:=by rw[M,List.length_drop]
  have av:z.length=c.length-n:=by rw[I,List.length_drop]
  rw[←M]at aJ;rw[←I]at aK;have ad:(0:Int)≤(n:Int):=by omega
  have aw:(n:Int)≤(ps.length:Int):=by omega
  have ax:(n:Int)≤(c.length:Int):=by omega
  obtain⟨ra,rc,an,aO⟩:∃ra rc,(∀u:World,(Instr.sliceAt 27 (.slice a ps.length cap) (some (.int .i64 n)) none none).run Tryz.prog u=.ok (.slice ra rs.length rc) u)∧(∀w,txnK.At w (.slice a ps.length cap) ps→txnK.At w (.slice ra rs.length rc) rs):=by
   refine⟨_,_,fun u=>?_,fun w h=>aJ w h (cap-n)⟩;rw[run_sliceAt_slice u 27 _ _ _ _ (by kernel_rfl),run_slice_l u 27 a ps.length cap (by kernel_rfl) .i64 (n:Int) ad aw,ab];rfl
  obtain⟨aY,aZ,ao,bd⟩:∃ra rc,(∀u:World,(Instr.sliceAt 27 (.slice a' c.length D) (some (.int .i64 n)) none none).run Tryz.prog u=.ok (.slice ra z.length rc) u)∧(∀w,txnK.At w (.slice a' c.length D) c→txnK.At w (.slice ra z.length rc) z):=by
   refine⟨_,_,fun u=>?_,fun w h=>aK w h (D-n)⟩;rw[run_sliceAt_slice u 27 _ _ _ _ (by kernel_rfl),run_slice_l u 27 a' c.length D (by kernel_rfl) .i64 (n:Int) ad ax,av];rfl
  have aW:rs.length≤40:=by omega
  have a7:Hid (((ps.map TxnQ.e).drop n).length=rs.length):=show _=_ by rw[List.length_drop,List.length_map,ab]
  clear aJ aK ad aw ax M I ab av;obtain⟨c0,c1⟩:=Cb.cel2
  go_wp2_with fail
  clear c0 c1;have bt:w1.heap.size<(w1.alloc (.cells #[.int .i64 0,.int .i64 n] 38)).heap.size:=by simp
  generalize w1.alloc (.cells #[.int .i64 0,.int .i64 n] 38)=X at*;obtain⟨c0,c1⟩:=Cb.lts2;have hW:Below X.heap.size X X.drew:=(Below.refl _ _).drew;have bk:Nonempty (Lat X):=⟨⟨X,Below.refl _ _⟩⟩
  replace an:∀u:Lat X,_:=fun u=>an u.val
  replace ao:∀u:Lat X,_:=fun u=>ao u.val
  refine z0h (S:=fun w'=>∃u:Lat X,w'=u.val) (by kernel_rfl) ?_;refine sgr [(0,3),(4,3)] 4 (by kernel_rfl) ⟨⟨_,hW⟩,rfl⟩ ?_;simp only[pkE];repeat go_big_quiet_step (fail)
  refine wpQuiet_nil ?_;refine qta 3 (some 21) (.slice ra rs.length rc) 3 (by kernel_rfl) (fun u hu=>?_) ⟨⟨_,hW⟩,rfl⟩ ?_
  ·obtain⟨u,rfl⟩:=hu;refine Eq.trans (b:=some (((Instr.sliceAt 27 (.slice a ps.length cap) (some (.int .i64 n)) none none)>>=fun x=>pure (Next.value x):Sem Next).run Tryz.prog u.val)) (by kernel_rfl) ?_;rw[Sem.run_bind,an u];rfl
  simp only[Act.put,pjE];refine qta 7 (some 25) (.slice aY z.length aZ) 2 (by kernel_rfl) (fun u hu=>?_) ⟨⟨_,hW⟩,rfl⟩ ?_
  ·obtain⟨u,rfl⟩:=hu;refine Eq.trans (b:=some (((Instr.sliceAt 27 (.slice a' c.length D) (some (.int .i64 n)) none none)>>=fun x=>pure (Next.value x):Sem Next).run Tryz.prog u.val)) (by kernel_rfl) ?_;rw[Sem.run_bind,ao u];rfl
  simp only[Act.put,pjE];refine sgr [(8,2)] 0 (by kernel_rfl) ⟨⟨_,hW⟩,rfl⟩ ?_;simp only[pkE];repeat go_big_quiet_step (fail)
  refine wpQuiet_nil ?_;refine z0k (by kernel_rfl) ?_;clear c0 c1 bk an ao;replace hB:=hB.trans (hW.mono hB.size);replace Rb:=Rb.below hW;replace Cb:=Cb.below hW;have bo:=hW.size;clear hW;generalize X.drew=Y at*;obtain⟨c0,c1⟩:=Cb.cel2;have Pb:=Blk.new Y 67 #[.int .i64 0,.int .i64 n,.int .i64 0,.slice none 0 0,.slice none 0 0];have L:Below Y.heap.size Y (Y.alloc (.cells #[.int .i64 0,.int .i64 n,.int .i64 0,.slice none 0 0,.slice none 0 0] 67)):=by go_grown
  have d:=hB.trans (L.mono hB.size);have A:=Rb.below L;have bv:=Rb.lt;have aX:Y.heap.size<(Y.alloc (.cells #[.int .i64 0,.int .i64 n,.int .i64 0,.slice none 0 0,.slice none 0 0] 67)).heap.size:=by simp
  have al:=hB;have aF:=Rb;clear hB Rb L;by_cases hz:z=[]
  ·-- CUT1
   subst hz;clear al aF;obtain⟨e1,e2,e3,e4⟩:=aD.out N.out.symm;clear aD aE;have W:=fun w h=>z1F (.slice ra rs.length rc) rs w h aU bh
   go_wp2_with fail
   clear c0 c1;generalize Y.alloc (.cells #[.int .i64 0,.int .i64 n,.int .i64 0,.slice none 0 0,.slice none 0 0] 67)=Z at*;generalize Y.heap.size=pb at*;refine(W Z (aO Z (h.below d))).mono ?_;rintro e w3 ⟨v3,q3,rfl,T,o3,n3,g3,E⟩;obtain⟨a3,c3,rfl⟩:=o3.shape;replace Pb:=Pb.below E;replace A:=A.below E;replace d:=d.trans (E.mono d.size);clear W E;have bl:pb≠w.heap.size:=by omega
   have am:w.heap.size≠pb:=by omega
   have E4:Hid (q3.map TxnQ.e=VK):=show _=_ by rw[e4,T,aM.out]
   have E1:Hid (VN=(n:Int)∧VB=0∧VA=[]):=⟨e1,e2,e3⟩
   clear e1 e2 e3 e4 T;have aR:∀k∈txnK.fp (.slice a3 q3.length c3) q3,k∉[pb]∧k∉[w.heap.size]:=fun k hk=>by have:=g3 k hk;simp only[List.mem_singleton];omega
   have g4:∀k∈txnK.fp (.slice a3 q3.length c3) q3,w.heap.size≤k:=fun k hk=>by have:=g3 k hk;omega
   have p0:=Pb.cell 0 _ rfl;have a8:=Pb.frozen 0;have p1:=Pb.cell 1 _ rfl;have ba:=Pb.frozen 1;have p2:=Pb.cell 2 _ rfl;have bb:=Pb.frozen 2;have p3:=Pb.cell 3 _ rfl;have aG:=Pb.frozen 3;have p4:=Pb.cell 4 _ rfl;have bc:=Pb.frozen 4;have O:=A.other8 (g:=pb) (j:=4) (u:=.slice a3 q3.length c3) am;have KQ:=d.setCell (p:=⟨pb,4,none⟩) (show w.heap.size≤pb by omega) (.slice a3 q3.length c3);have KF:=z0o KQ (Nat.le_refl w.heap.size) #[.int .i64 0,.int .i64 n,.int .i64 0,.slice none 0 0,.slice a3 q3.length c3];have O5:Hid _:=(o3.out (Out.setCell w3 pb 4 (.slice a3 q3.length c3)) (fun k hk=>(aR k hk).1)).out (z0r _ w.heap.size #[.int .i64 0,.int .i64 n,.int .i64 0,.slice none 0 0,.slice a3 q3.length c3]) (fun k hk=>(aR k hk).2);have Rr:=O.row #[.int .i64 0,.int .i64 n,.int .i64 0,.slice none 0 0,.slice a3 q3.length c3]
   go_wp2_with (first|(refine z0C (by kernel_rfl) 67 _ _ rfl _ #[.int .i64 0,.int .i64 n,.int .i64 0,.slice none 0 0,.slice a3 q3.length c3] rfl rfl 67 _ O z3E rfl (by simp[Value.oneCell']) ?_))
   obtain⟨ag,ah,ai,aj,ak⟩:=Rr.cel5;refine bodyPost_ret (v:=.agg #[.int .i64 0,.int .i64 n,.int .i64 0,.slice none 0 0,.slice a3 q3.length c3]) (by simp[results,Tryz.results31,go_sem,ag,ah,ai,aj,ak]) rfl ?_;refine⟨.slice none 0 0,.slice a3 q3.length c3,[],q3,?_,?_,E4.out,(z2d _).1,O5.out,?_,?_,KF⟩
   ·rw[E1.out.1,E1.out.2.1]
   ·rw[E1.out.2.2];rfl
   ·rw[(z2d w).2];exact n3
   ·rw[(z2d w).2];exact g4
  ·obtain⟨e1,e2,e3,e4⟩:=aE.out (by rw[←N.out];simpa using hz);have bx:0<z.length:=List.length_pos_iff.2 hz;have bz:¬z.length=0:=by omega
   have bA:((z.length:Int)==0)=false:=by simp;omega
   rw[a7.out]at e2;have E1:Hid (VN=(n:Int)∧VB=(rs.length:Int)):=⟨e1,e2⟩
   have E3:Hid (VA=(c.map TxnQ.e).drop n):=e3;have E4:Hid (VK=z2Q ((ps.map TxnQ.e).drop n) (c.map TxnQ.e)):=e4;clear aD aE e1 e2 e3 e4 hz Pb d A aX;have W:=fun w h=>z1F (.slice aY z.length aZ) z w h aV aQ
   have aS:=fun w h h'=>z5S (.slice ra rs.length rc) (.slice a' c.length D) rs c w h h' aW (by omega)
   have aa:=fun v w h=>z1F v (witQ rs (c.map TxnQ.e)) w h (fun p hp=>aU p (z67 hp)) (by have:=z9d rs (c.map TxnQ.e);omega)
   rw[z8q]at aa;have Pb:=Blk.new Y 67 #[.int .i64 0,.int .i64 n,.int .i64 rs.length,.slice none 0 0,.slice none 0 0];have L:Below Y.heap.size Y (Y.alloc (.cells #[.int .i64 0,.int .i64 n,.int .i64 rs.length,.slice none 0 0,.slice none 0 0] 67)):=by go_grown
   have d:=al.trans (L.mono al.size);have A:=aF.below L;have aX:Y.heap.size<(Y.alloc (.cells #[.int .i64 0,.int .i64 n,.int .i64 rs.length,.slice none 0 0,.slice none 0 0] 67)).heap.size:=by simp
   clear L al aF
   go_wp2_with fail
   clear c0 c1;generalize Y.alloc (.cells #[.int .i64 0,.int .i64 n,.int .i64 rs.length,.slice none 0 0,.slice none 0 0] 67)=Z at*;generalize Y.heap.size=pb at*;refine(W Z (bd Z (h'.below d))).mono ?_;rintro e w3 ⟨v3,q3,rfl,T,o3,n3,g3,E⟩;obtain⟨a3,c3,rfl⟩:=o3.shape;have bl:pb≠w.heap.size:=by omega
   have am:w.heap.size≠pb:=by omega
   have bm:=E.size;have l3:=o3.lt;replace Pb:=Pb.below E;replace A:=A.below E;replace d:=d.trans (E.mono d.size);clear W E;have a1:Hid (q3.map TxnQ.e=VA):=show _=_ by rw[E3.out,T,N.out]
   clear T E3;have p3:=Pb.cell 3 _ rfl;have aG:=Pb.frozen 3;replace Pb:=Pb.putA 3 (.slice a3 q3.length c3);replace A:=A.other8 (g:=pb) (j:=3) (u:=.slice a3 q3.length c3) am;replace d:=d.setCell (p:=⟨pb,3,none⟩) (show w.heap.size≤pb by omega) (.slice a3 q3.length c3);have ae:∀k∈txnK.fp (.slice a3 q3.length c3) q3,k∉[pb]∧k∉[w.heap.size]:=fun k hk=>by have:=g3 k hk;simp only[List.mem_singleton];omega
   replace o3:=o3.out (Out.setCell w3 pb 3 (.slice a3 q3.length c3)) (fun k hk=>(ae k hk).1);have az:w3.heap.size=(w3.setCell ⟨pb,3,none⟩ (.slice a3 q3.length c3)).heap.size:=by simp
   go_wp2_with fail
   clear p3 aG;generalize w3.setCell ⟨pb,3,none⟩ (.slice a3 q3.length c3)=w4 at*;rw[az]at l3 bm;clear az;simp only[pjE]at Pb;have U:=aO w4 (h.below d);refine(aS w4 U (h'.below d)).mono ?_;rintro e w5 ⟨v5,rfl,af,J⟩;replace U:=U.below J;have ar:txnK.At w5 v5 (witQ rs (c.map TxnQ.e)):=Kind.at_of_row af (fun q hq=>U.rdm (z67 hq));obtain⟨a5,c5,rfl⟩:=z0b af;replace Pb:=Pb.below J;replace A:=A.below J;replace d:=d.trans (J.mono d.size);replace o3:=o3.below J;have bw:=J.size;have au:=aa (.slice a5 (witQ rs (c.map TxnQ.e)).length c5) w5 ar;clear aS J af ar U aa;generalize witQ rs (c.map TxnQ.e)=wq at*
   go_wp2_with fail
   refine au.mono ?_;rintro e w6 ⟨v6,q6,rfl,aN,o6,n6,g6,V⟩;obtain⟨a6,c6,rfl⟩:=o6.shape;replace Pb:=Pb.below V;replace A:=A.below V;replace d:=d.trans (V.mono d.size);replace o3:=o3.below V;have a2:Hid (q6.map TxnQ.e=VK):=show _=_ by rw[E4.out,aN,aM.out]
   clear aN E4 au V;have ay:∀k∈txnK.fp (.slice a6 q6.length c6) q6,k∉[pb]∧k∉[w.heap.size]:=fun k hk=>by have:=g6 k hk;simp only[List.mem_singleton];omega
   have gA:∀k∈txnK.fp (.slice a3 q3.length c3) q3++txnK.fp (.slice a6 q6.length c6) q6,w.heap.size≤k:=fun k hk=>by
    rcases List.mem_append.1 hk with hk|hk
    ·have:=g3 k hk;omega
    ·have:=g6 k hk;omega
   have nA:(txnK.fp (.slice a3 q3.length c3) q3++txnK.fp (.slice a6 q6.length c6) q6).Nodup:=List.nodup_append.2 ⟨n3,n6,fun x hx y hy e=>by have:=l3 x hx;have:=g6 y hy;omega⟩;have p0:=Pb.cell 0 _ rfl;have a8:=Pb.frozen 0;have p1:=Pb.cell 1 _ rfl;have ba:=Pb.frozen 1;have p2:=Pb.cell 2 _ rfl;have bb:=Pb.frozen 2;have p3:=Pb.cell 3 _ rfl;have aG:=Pb.frozen 3;have p4:=Pb.cell 4 _ rfl;have bc:=Pb.frozen 4;have O:=A.other8 (g:=pb) (j:=4) (u:=.slice a6 q6.length c6) am;have KQ:=d.setCell (p:=⟨pb,4,none⟩) (show w.heap.size≤pb by omega) (.slice a6 q6.length c6);have KF:=z0o KQ (Nat.le_refl w.heap.size) #[.int .i64 0,.int .i64 n,.int .i64 rs.length,.slice a3 q3.length c3,.slice a6 q6.length c6];have O3:Hid _:=(o3.out (Out.setCell w6 pb 4 (.slice a6 q6.length c6)) (fun k hk=>(ae k hk).1)).out (z0r _ w.heap.size #[.int .i64 0,.int .i64 n,.int .i64 rs.length,.slice a3 q3.length c3,.slice a6 q6.length c6]) (fun k hk=>(ae k hk).2);have O6:Hid _:=(o6.out (Out.setCell w6 pb 4 (.slice a6 q6.length c6)) (fun k hk=>(ay k hk).1)).out (z0r _ w.heap.size #[.int .i64 0,.int .i64 n,.int .i64 rs.length,.slice a3 q3.length c3,.slice a6 q6.length c6]) (fun k hk=>(ay k hk).2);have Rr:=O.row #[.int .i64 0,.int .i64 n,.int .i64 rs.length,.slice a3 q3.length c3,.slice a6 q6.length c6]
   go_wp2_with (first|(refine z0C (by kernel_rfl) 67 _ _ rfl _ #[.int .i64 0,.int .i64 n,.int .i64 rs.length,.slice a3 q3.length c3,.slice a6 q6.length c6] rfl rfl 67 _ O z3E rfl (by simp[Value.oneCell']) ?_))
   obtain⟨ag,ah,ai,aj,ak⟩:=Rr.cel5;refine bodyPost_ret (v:=.agg #[.int .i64 0,.int .i64 n,.int .i64 rs.length,.slice a3 q3.length c3,.slice a6 q6.length c6]) (by simp[results,Tryz.results31,go_sem,ag,ah,ai,aj,ak]) rfl ?_;refine⟨.slice a3 q3.length c3,.slice a6 q6.length c6,q3,q6,?_,a1.out,a2.out,O3.out,O6.out,nA,gA,KF⟩;rw[E1.out.1,E1.out.2]
 ·obtain⟨e1,e2,e3,e4⟩:=HV.out hC;have E1:Hid (VN=0∧VB=0∧VA=[]∧VK=[]):=⟨e1,e2,e3,e4⟩
  obtain⟨c0,c1⟩:=Cb.cel2;clear HV aB aC aA HL e1 e2 e3 e4;have bs:(C !=0)=true:=by simpa using hC
  have KF:=z0o hB (Nat.le_refl w.heap.size) #[.int .i64 C,.int .i64 0,.int .i64 0,.slice none 0 0,.slice none 0 0];have Rr:=Rb.row #[.int .i64 C,.int .i64 0,.int .i64 0,.slice none 0 0,.slice none 0 0]
  go_wp2_with (first|(refine z0C (by kernel_rfl) 67 _ _ rfl _ #[.int .i64 C,.int .i64 0,.int .i64 0,.slice none 0 0,.slice none 0 0] rfl rfl 67 _ Rb z3E rfl (by simp[Value.oneCell']) ?_))
  obtain⟨ag,ah,ai,aj,ak⟩:=Rr.cel5;refine bodyPost_ret (v:=.agg #[.int .i64 C,.int .i64 0,.int .i64 0,.slice none 0 0,.slice none 0 0]) (by simp[results,Tryz.results31,go_sem,ag,ah,ai,aj,ak]) rfl ?_;refine⟨.slice none 0 0,.slice none 0 0,[],[],?_,?_,?_,(z2d _).1,(z2d _).1,?_,?_,KF⟩
  ·rw[E1.out.1,E1.out.2.1]
  ·rw[E1.out.2.2.1];rfl
  ·rw[E1.out.2.2.2];rfl
  ·rw[(z2d w).2];simp
  ·rw[(z2d w).2];simp
theorem z6v(v v':Value)(ps c:List TxnQ)(w:World)(h:txnK.At w v ps)(h':txnK.At w v' c)(aU:z2k v)(aC:z2k v')(hl:ps.length+nmL TxnQ.n ps≤1048576)(aV:c.length+nmL TxnQ.n c≤1048576)(hC:bthF (ps.map TxnQ.e) (c.map TxnQ.e)=0):
  Calls Tryz.prog 143 #[v,v'] w fun e w'=>∃ (v1 v2:Value) (q1 q2:List TxnQ),e=.returned (.agg #[.int .i64 0,.int .i64 (plN (ps.map TxnQ.e) (c.map TxnQ.e)),.int .i64 (plB (ps.map TxnQ.e) (c.map TxnQ.e)),v1,v2])∧q1.map TxnQ.e=plA (ps.map TxnQ.e) (c.map TxnQ.e)∧q2.map TxnQ.e=plK (ps.map TxnQ.e) (c.map TxnQ.e)∧txnK.Own w' v1 q1∧txnK.Own w' v2 q2∧(txnK.fp v1 q1++txnK.fp v2 q2).Nodup∧(∀k∈txnK.fp v1 q1++txnK.fp v2 q2,w.heap.size≤k)∧Below w.heap.size w w':=by
 have HV:Hid (bthF (ps.map TxnQ.e) (c.map TxnQ.e)≠0→plN (ps.map TxnQ.e) (c.map TxnQ.e)=0∧plB (ps.map TxnQ.e) (c.map TxnQ.e)=0∧plA (ps.map TxnQ.e) (c.map TxnQ.e)=[]∧plK (ps.map TxnQ.e) (c.map TxnQ.e)=[]):=fun h0=>z8c h0
 have ax:Hid (bthF (ps.map TxnQ.e) (c.map TxnQ.e)=0→(c.map TxnQ.e).drop (comN (ps.map TxnQ.e) (c.map TxnQ.e))=[]→plN (ps.map TxnQ.e) (c.map TxnQ.e)=(comN (ps.map TxnQ.e) (c.map TxnQ.e):Int)∧plB (ps.map TxnQ.e) (c.map TxnQ.e)=0∧plA (ps.map TxnQ.e) (c.map TxnQ.e)=[]∧plK (ps.map TxnQ.e) (c.map TxnQ.e)=(ps.map TxnQ.e).drop (comN (ps.map TxnQ.e) (c.map TxnQ.e))):=fun h0 h1=>z69 h0 h1
 have ay:Hid (bthF (ps.map TxnQ.e) (c.map TxnQ.e)=0→(c.map TxnQ.e).drop (comN (ps.map TxnQ.e) (c.map TxnQ.e))≠[]→plN (ps.map TxnQ.e) (c.map TxnQ.e)=(comN (ps.map TxnQ.e) (c.map TxnQ.e):Int)∧plB (ps.map TxnQ.e) (c.map TxnQ.e)=(((ps.map TxnQ.e).drop (comN (ps.map TxnQ.e) (c.map TxnQ.e))).length:Int)∧plA (ps.map TxnQ.e) (c.map TxnQ.e)=(c.map TxnQ.e).drop (comN (ps.map TxnQ.e) (c.map TxnQ.e))∧plK (ps.map TxnQ.e) (c.map TxnQ.e)=z2Q ((ps.map TxnQ.e).drop (comN (ps.map TxnQ.e) (c.map TxnQ.e))) (c.map TxnQ.e)):=fun h0 h1=>z8d h0 h1
 have HL:Hid (bthF (ps.map TxnQ.e) (c.map TxnQ.e)=0→ps.length≤40∧c.length≤40∧(∀p∈ps,0<p.acts.length)∧(∀p∈c,0<p.acts.length)):=fun h0=>⟨by simpa using(z3D (z08 h0).1).1,by simpa using(z3D (z08 h0).2).1,z4M (z08 h0).1,z4M (z08 h0).2⟩
 have aX:comN (ps.map TxnQ.e) (c.map TxnQ.e)≤ps.length:=by simpa using(z54 (ps.map TxnQ.e) (c.map TxnQ.e)).1
 have aY:comN (ps.map TxnQ.e) (c.map TxnQ.e)≤c.length:=by simpa using(z54 (ps.map TxnQ.e) (c.map TxnQ.e)).2
 have hB:Below w.heap.size w (w.alloc (.cells #[.int .i64 0,.int .i64 0,.int .i64 0,.slice none 0 0,.slice none 0 0] 67)):=by go_grown
 have Rb:=Blk.new w 67 #[.int .i64 0,.int .i64 0,.int .i64 0,.slice none 0 0,.slice none 0 0];have hq:=z5q v v' ps c (w.alloc (.cells #[.int .i64 0,.int .i64 0,.int .i64 0,.slice none 0 0,.slice none 0 0] 67)) (h.below hB) (h'.below hB) hl aV;obtain⟨a,cap,rfl⟩:=h.shape;obtain⟨a',D,rfl⟩:=h'.shape;have aa:=ax.out hC;have ab:=ay.out hC;have ai:Hid _:=aa;have aj:Hid _:=ab;obtain⟨bc,bb,aJ,ao⟩:=HL.out hC;clear HV ax ay aa ab HL hC;generalize plN (ps.map TxnQ.e) (c.map TxnQ.e)=VN at*;generalize plB (ps.map TxnQ.e) (c.map TxnQ.e)=VB at*;generalize plA (ps.map TxnQ.e) (c.map TxnQ.e)=VA at*;generalize plK (ps.map TxnQ.e) (c.map TxnQ.e)=VK at*;generalize comN (ps.map TxnQ.e) (c.map TxnQ.e)=n at*;have am:=fun w (h:txnK.At w (.slice a ps.length cap) ps) c'=>h.dropS n aX aU.1 c'
 have an:=fun w (h:txnK.At w (.slice a' c.length D) c) c'=>h.dropS n aY aC.1 c'
 obtain⟨rs,L⟩:∃rs,rs=ps.drop n:=⟨_,rfl⟩
 obtain⟨z,E⟩:∃z,z=c.drop n:=⟨_,rfl⟩
 have aw:Hid (rs.map TxnQ.e=(ps.map TxnQ.e).drop n):=show _=_ by rw[L,List.map_drop]
 have M:Hid (z.map TxnQ.e=(c.map TxnQ.e).drop n):=show _=_ by rw[E,List.map_drop]
 have aD:rs.length+nmL TxnQ.n rs≤1048576:=by rw[L];have:=z55 ps n;omega
 have aE:z.length+nmL TxnQ.n z≤1048576:=by rw[E];have:=z55 c n;omega
 have aK:∀p∈rs,0<p.acts.length:=fun p hp=>aJ p (List.mem_of_mem_drop (by rw[←L];exact hp))
 have aL:∀p∈z,0<p.acts.length:=fun p hp=>ao p (List.mem_of_mem_drop (by rw[←E];exact hp))
 have V:rs.length=ps.length-n:=by rw[L,List.length_drop]
 have J:z.length=c.length-n:=by rw[E,List.length_drop]
 rw[←L]at am;rw[←E]at an;have ad:(0:Int)≤(n:Int):=by omega
 have aF:(n:Int)≤(ps.length:Int):=by omega
 have aG:(n:Int)≤(c.length:Int):=by omega
 obtain⟨ra,rc,be,aA⟩:∃ra rc,(∀u:World,(Instr.slice 27 (.slice a ps.length cap) (some (.int .i64 n)) none none).run Tryz.prog u=.ok (.slice ra rs.length rc) u)∧(∀w,txnK.At w (.slice a ps.length cap) ps→txnK.At w (.slice ra rs.length rc) rs):=by
  refine⟨_,_,fun u=>?_,fun w h=>am w h (cap-n)⟩;rw[run_slice_l u 27 a ps.length cap (by kernel_rfl) .i64 (n:Int) ad aF,V];rfl
 obtain⟨a8,ba,bf,aT⟩:∃ra rc,(∀u:World,(Instr.slice 27 (.slice a' c.length D) (some (.int .i64 n)) none none).run Tryz.prog u=.ok (.slice ra z.length rc) u)∧(∀w,txnK.At w (.slice a' c.length D) c→txnK.At w (.slice ra z.length rc) z):=by
  refine⟨_,_,fun u=>?_,fun w h=>an w h (D-n)⟩;rw[run_slice_l u 27 a' c.length D (by kernel_rfl) .i64 (n:Int) ad aG,J];rfl
 have aM:rs.length≤40:=by omega
 have aO:Hid (((ps.map TxnQ.e).drop n).length=rs.length):=show _=_ by rw[List.length_drop,List.length_map,V]
 have ah:Hid (((ps.length:Int)-(n:Int))=(rs.length:Int)):=show _=_ by omega
 have HZ:Hid (z=[]↔n=c.length):=by
  show _↔_;constructor
  ·intro e;rw[e]at J;simp at J;omega
  ·intro e;exact List.length_eq_zero_iff.1 (by omega)
 clear am an L E V J;go_enter Tryz.func143,Tryz.ntmps143
 go_wp2_with fail
 refine hq.mono ?_;rintro e Y ⟨rfl,al⟩;replace hB:=hB.trans (al.mono hB.size);replace Rb:=Rb.below al;clear hq al;have bd:=Rb.lt;by_cases hz:n=c.length
 ·obtain⟨e1,e2,e3,e4⟩:=ai.out (by rw[←M.out,HZ.out.2 hz];rfl);have a7:((n:Int)==(c.length:Int))=true:=by rw[hz];simp
  have E1:Hid (VN=(n:Int)∧VB=0∧VA=[]):=⟨e1,e2,e3⟩
  have E4:Hid (VK=(ps.map TxnQ.e).drop n):=e4;have Pb:=Blk.new Y 67 #[.int .i64 0,.int .i64 n,.int .i64 0,.slice none 0 0,.slice none 0 0];have I:Below Y.heap.size Y (Y.alloc (.cells #[.int .i64 0,.int .i64 n,.int .i64 0,.slice none 0 0,.slice none 0 0] 67)):=by go_grown
  have d:=hB.trans (I.mono hB.size);have A:=Rb.below I;have a2:Y.heap.size<(Y.alloc (.cells #[.int .i64 0,.int .i64 n,.int .i64 0,.slice none 0 0,.slice none 0 0] 67)).heap.size:=by simp
  have U:=fun w h=>z1e (.slice ra rs.length rc) rs w h aK aD
  clear ai aj hB Rb I e1 e2 e3 e4 HZ hz ah
  go_wp2_with fail
  generalize Y.alloc (.cells #[.int .i64 0,.int .i64 n,.int .i64 0,.slice none 0 0,.slice none 0 0] 67)=Z at*;generalize Y.heap.size=pb at*;refine(U Z (aA Z (h.below d))).mono ?_;rintro e w3 ⟨v3,q3,rfl,O,o3,n3,g3,C⟩;obtain⟨a3,c3,rfl⟩:=o3.shape;replace Pb:=Pb.below C;replace A:=A.below C;replace d:=d.trans (C.mono d.size);clear U C;have aZ:pb≠w.heap.size:=by omega
  have X:w.heap.size≠pb:=by omega
  have ag:Hid (q3.map TxnQ.e=VK):=show _=_ by rw[E4.out,O,aw.out]
  clear O E4;have aH:∀k∈txnK.fp (.slice a3 q3.length c3) q3,k∉[pb]∧k∉[w.heap.size]:=fun k hk=>by have:=g3 k hk;simp only[List.mem_singleton];omega
  have g4:∀k∈txnK.fp (.slice a3 q3.length c3) q3,w.heap.size≤k:=fun k hk=>by have:=g3 k hk;omega
  have p0:=Pb.cell 0 _ rfl;have aP:=Pb.frozen 0;have p1:=Pb.cell 1 _ rfl;have aQ:=Pb.frozen 1;have p2:=Pb.cell 2 _ rfl;have aR:=Pb.frozen 2;have p3:=Pb.cell 3 _ rfl;have ak:=Pb.frozen 3;have p4:=Pb.cell 4 _ rfl;have aS:=Pb.frozen 4;have N:=A.other8 (g:=pb) (j:=4) (u:=.slice a3 q3.length c3) X;have KQ:=d.setCell (p:=⟨pb,4,none⟩) (show w.heap.size≤pb by omega) (.slice a3 q3.length c3);have KF:=z0o KQ (Nat.le_refl w.heap.size) #[.int .i64 0,.int .i64 n,.int .i64 0,.slice none 0 0,.slice a3 q3.length c3];have O5:Hid _:=(o3.out (Out.setCell w3 pb 4 (.slice a3 q3.length c3)) (fun k hk=>(aH k hk).1)).out (z0r _ w.heap.size #[.int .i64 0,.int .i64 n,.int .i64 0,.slice none 0 0,.slice a3 q3.length c3]) (fun k hk=>(aH k hk).2);have Rr:=N.row #[.int .i64 0,.int .i64 n,.int .i64 0,.slice none 0 0,.slice a3 q3.length c3]
  go_wp2_with (first|(refine z0C (by kernel_rfl) 67 _ _ rfl _ #[.int .i64 0,.int .i64 n,.int .i64 0,.slice none 0 0,.slice a3 q3.length c3] rfl rfl 67 _ N z3E rfl (by simp[Value.oneCell']) ?_))
  obtain⟨ap,aq,ar,au,av⟩:=Rr.cel5;refine bodyPost_ret (v:=.agg #[.int .i64 0,.int .i64 n,.int .i64 0,.slice none 0 0,.slice a3 q3.length c3]) (by simp[results,Tryz.results143,go_sem,ap,aq,ar,au,av]) rfl ?_;refine⟨.slice none 0 0,.slice a3 q3.length c3,[],q3,?_,?_,ag.out,(z2d _).1,O5.out,?_,?_,KF⟩
  ·rw[E1.out.1,E1.out.2.1]
  ·rw[E1.out.2.2];rfl
  ·rw[(z2d w).2];exact n3
  ·rw[(z2d w).2];exact g4
 ·obtain⟨e1,e2,e3,e4⟩:=aj.out (by rw[←M.out];intro e;exact hz (HZ.out.1 (List.map_eq_nil_iff.1 e)));have a7:((n:Int)==(c.length:Int))=false:=by simp;omega
  rw[aO.out]at e2;have E1:Hid (VN=(n:Int)∧VB=(rs.length:Int)):=⟨e1,e2⟩
  have E3:Hid (VA=(c.map TxnQ.e).drop n):=e3;have E4:Hid (VK=z2Q ((ps.map TxnQ.e).drop n) (c.map TxnQ.e)):=e4;have aW:=ah.out;clear ai aj e1 e2 e3 e4 HZ ah hz;have U:=fun w h=>z1e (.slice a8 z.length ba) z w h aL aE
  have aI:=fun w h h'=>z2x (.slice ra rs.length rc) (.slice a' c.length D) rs c w h h' aK aM aD (by omega)
  have Pb:=Blk.new Y 67 #[.int .i64 0,.int .i64 n,.int .i64 rs.length,.slice none 0 0,.slice none 0 0];have I:Below Y.heap.size Y (Y.alloc (.cells #[.int .i64 0,.int .i64 n,.int .i64 rs.length,.slice none 0 0,.slice none 0 0] 67)):=by go_grown
  have d:=hB.trans (I.mono hB.size);have A:=Rb.below I;have a2:Y.heap.size<(Y.alloc (.cells #[.int .i64 0,.int .i64 n,.int .i64 rs.length,.slice none 0 0,.slice none 0 0] 67)).heap.size:=by simp
  clear I hB Rb
  go_wp2_with fail
  clear aW;generalize Y.alloc (.cells #[.int .i64 0,.int .i64 n,.int .i64 rs.length,.slice none 0 0,.slice none 0 0] 67)=Z at*;generalize Y.heap.size=pb at*;refine(U Z (aT Z (h'.below d))).mono ?_;rintro e w3 ⟨v3,q3,rfl,O,o3,n3,g3,C⟩;obtain⟨a3,c3,rfl⟩:=o3.shape;have aZ:pb≠w.heap.size:=by omega
  have X:w.heap.size≠pb:=by omega
  have a1:=C.size;have l3:=o3.lt;replace Pb:=Pb.below C;replace A:=A.below C;replace d:=d.trans (C.mono d.size);clear U C;have aN:Hid (q3.map TxnQ.e=VA):=show _=_ by rw[E3.out,O,M.out]
  clear O E3;have p3:=Pb.cell 3 _ rfl;have ak:=Pb.frozen 3;replace Pb:=Pb.putA 3 (.slice a3 q3.length c3);replace A:=A.other8 (g:=pb) (j:=3) (u:=.slice a3 q3.length c3) X;replace d:=d.setCell (p:=⟨pb,3,none⟩) (show w.heap.size≤pb by omega) (.slice a3 q3.length c3);have W:∀k∈txnK.fp (.slice a3 q3.length c3) q3,k∉[pb]∧k∉[w.heap.size]:=fun k hk=>by have:=g3 k hk;simp only[List.mem_singleton];omega
  replace o3:=o3.out (Out.setCell w3 pb 3 (.slice a3 q3.length c3)) (fun k hk=>(W k hk).1);have af:w3.heap.size=(w3.setCell ⟨pb,3,none⟩ (.slice a3 q3.length c3)).heap.size:=by simp
  go_wp2_with fail
  clear p3 ak;generalize w3.setCell ⟨pb,3,none⟩ (.slice a3 q3.length c3)=w4 at*;rw[af]at l3 a1;clear af;simp only[pjE]at Pb;have aB:=aA w4 (h.below d);refine(aI w4 aB (h'.below d)).mono ?_;rintro e w6 ⟨v6,q6,rfl,az,o6,n6,g6,T⟩;obtain⟨a6,c6,rfl⟩:=o6.shape;replace Pb:=Pb.below T;replace A:=A.below T;replace d:=d.trans (T.mono d.size);replace o3:=o3.below T;have ag:Hid (q6.map TxnQ.e=VK):=show _=_ by rw[E4.out,az,aw.out]
  clear az E4 aI T aB;have ae:∀k∈txnK.fp (.slice a6 q6.length c6) q6,k∉[pb]∧k∉[w.heap.size]:=fun k hk=>by have:=g6 k hk;simp only[List.mem_singleton];omega
  have gA:∀k∈txnK.fp (.slice a3 q3.length c3) q3++txnK.fp (.slice a6 q6.length c6) q6,w.heap.size≤k:=fun k hk=>by
   rcases List.mem_append.1 hk with hk|hk
   ·have:=g3 k hk;omega
   ·have:=g6 k hk;omega
  have nA:(txnK.fp (.slice a3 q3.length c3) q3++txnK.fp (.slice a6 q6.length c6) q6).Nodup:=List.nodup_append.2 ⟨n3,n6,fun x hx y hy e=>by have:=l3 x hx;have:=g6 y hy;omega⟩;have p0:=Pb.cell 0 _ rfl;have aP:=Pb.frozen 0;have p1:=Pb.cell 1 _ rfl;have aQ:=Pb.frozen 1;have p2:=Pb.cell 2 _ rfl;have aR:=Pb.frozen 2;have p3:=Pb.cell 3 _ rfl;have ak:=Pb.frozen 3;have p4:=Pb.cell 4 _ rfl;have aS:=Pb.frozen 4;have N:=A.other8 (g:=pb) (j:=4) (u:=.slice a6 q6.length c6) X;have KQ:=d.setCell (p:=⟨pb,4,none⟩) (show w.heap.size≤pb by omega) (.slice a6 q6.length c6);have KF:=z0o KQ (Nat.le_refl w.heap.size) #[.int .i64 0,.int .i64 n,.int .i64 rs.length,.slice a3 q3.length c3,.slice a6 q6.length c6];have O3:Hid _:=(o3.out (Out.setCell w6 pb 4 (.slice a6 q6.length c6)) (fun k hk=>(W k hk).1)).out (z0r _ w.heap.size #[.int .i64 0,.int .i64 n,.int .i64 rs.length,.slice a3 q3.length c3,.slice a6 q6.length c6]) (fun k hk=>(W k hk).2);have O6:Hid _:=(o6.out (Out.setCell w6 pb 4 (.slice a6 q6.length c6)) (fun k hk=>(ae k hk).1)).out (z0r _ w.heap.size #[.int .i64 0,.int .i64 n,.int .i64 rs.length,.slice a3 q3.length c3,.slice a6 q6.length c6]) (fun k hk=>(ae k hk).2);have Rr:=N.row #[.int .i64 0,.int .i64 n,.int .i64 rs.length,.slice a3 q3.length c3,.slice a6 q6.length c6]
  go_wp2_with (first|(refine z0C (by kernel_rfl) 67 _ _ rfl _ #[.int .i64 0,.int .i64 n,.int .i64 rs.length,.slice a3 q3.length c3,.slice a6 q6.length c6] rfl rfl 67 _ N z3E rfl (by simp[Value.oneCell']) ?_))
  obtain⟨ap,aq,ar,au,av⟩:=Rr.cel5;refine bodyPost_ret (v:=.agg #[.int .i64 0,.int .i64 n,.int .i64 rs.length,.slice a3 q3.length c3,.slice a6 q6.length c6]) (by simp[results,Tryz.results143,go_sem,ap,aq,ar,au,av]) rfl ?_;refine⟨.slice a3 q3.length c3,.slice a6 q6.length c6,q3,q6,?_,aN.out,ag.out,O3.out,O6.out,nA,gA,KF⟩;rw[E1.out.1,E1.out.2]
def Src(B:Nat)(w:World)(b:Nat)(T:Nat):Prop:=
 ∃ (a:Option Addr) (zs:List Int) (cap t:Nat),B≤b∧b<w.heap.size∧w.cell? ⟨b,0,none⟩=some (.slice a zs.length cap)∧w.cell? ⟨b,1,none⟩=some (.int .i64 (t:Int))∧w.frozen? ⟨b,1,none⟩=false∧
  t≤T∧zs.length≤1048576∧(∀i,0≤zs.getD i 0∧zs.getD i 0≤255)∧(∀i,i<zs.length→∃b' off,a=some ⟨b',off,none⟩∧b'<B∧w.cell? ⟨b',off+i,none⟩=some (.int .u8 (zs.getD i 0)))
theorem Src.lt{B b T:Nat}{w:World}(h:Src B w b T):B≤b∧b<w.heap.size:=by
 obtain⟨a,zs,cap,t,h1,h2,_⟩:=h;exact⟨h1,h2⟩
theorem Src.kept{B b T:Nat}{w w':World}(h:Src B w b T)(hs:w.heap.size≤w'.heap.size)(hb:w'.heap[b]?=w.heap[b]?)(hB:∀k,k<B→w'.heap[k]?=w.heap[k]?):Src B w' b T:=by
 obtain⟨a,zs,cap,t,h1,h2,h3,h4,h5,h6,h7,h8,h9⟩:=h;refine⟨a,zs,cap,t,h1,Nat.lt_of_lt_of_le h2 hs,?_,?_,?_,h6,h7,h8,?_⟩
 ·rw[World.cell?_of_block (w:=w) (a:=⟨b,0,none⟩) hb];exact h3
 ·rw[World.cell?_of_block (w:=w) (a:=⟨b,1,none⟩) hb];exact h4
 ·rw[World.frozen?_of_block (w:=w) (a:=⟨b,1,none⟩) hb];exact h5
 ·intro i hi;obtain⟨b',off,e1,e2,e3⟩:=h9 i hi;exact⟨b',off,e1,e2,by rw[World.cell?_of_block (w:=w) (a:=⟨b',off+i,none⟩) (hB b' e2)];exact e3⟩
theorem Src.below{B b T:Nat}{w w':World}(h:Src B w b T)(hb:Below w.heap.size w w'):Src B w' b T:=
 h.kept hb.size (hb.block b h.lt.2) (fun k hk=>hb.block k (by have:=h.lt;omega))
theorem Src.mono{B b T T':Nat}{w:World}(h:Src B w b T)(hT:T≤T'):Src B w b T':=by
 obtain⟨a,zs,cap,t,h1,h2,h3,h4,h5,h6,r⟩:=h;exact⟨a,zs,cap,t,h1,h2,h3,h4,h5,Nat.le_trans h6 hT,r⟩
theorem Src.step{B b T:Nat}{w:World}{a:Option Addr}{zs:List Int}{cap t:Nat}(h1:B≤b)(h2:b<w.heap.size)(h3:w.cell? ⟨b,0,none⟩=some (.slice a zs.length cap))(h4:w.cell? ⟨b,1,none⟩=some (.int .i64 (t:Int)))(h5:w.frozen? ⟨b,1,none⟩=false)
  (h6:t≤T) (h7:zs.length≤1048576) (h8:∀i,0≤zs.getD i 0∧zs.getD i 0≤255) (h9:∀i,i<zs.length→∃b' off,a=some ⟨b',off,none⟩∧b'<B∧w.cell? ⟨b',off+i,none⟩=some (.int .u8 (zs.getD i 0))):
  Src B (w.setCell ⟨b,1,none⟩ (.int .i64 ((t:Int)+1))) b (T+1)∧w.grownBy (w.setCell ⟨b,1,none⟩ (.int .i64 ((t:Int)+1))) (some b):=by
 refine⟨⟨a,zs,cap,t+1,h1,by simpa using h2,?_,?_,?_,by omega,h7,h8,?_⟩,⟨rfl,rfl,rfl,by simp,fun k _ hk=>Below.heap_setCell w _ _ k (fun e=>hk (by simp[e]))⟩⟩
 ·go_cell
 ·rw[World.cell?_setCell_same _ _ _ h4];simp
 ·rw[World.frozen?_setCell];exact h5
 ·intro i hi;obtain⟨b',off,e1,e2,e3⟩:=h9 i hi;refine⟨b',off,e1,e2,?_⟩;rw[World.cell?_of_block (w:=w) (a:=⟨b',off+i,none⟩) (Below.heap_setCell w _ _ b' (by simp;omega))];exact e3
def InR(n r:Int):Prop:=0≤r∧(1≤n→r<n)∧(n<1→r=0)
theorem InR.mod(x n:Int)(h:1≤n):InR n (x % n):=⟨Int.emod_nonneg _ (by omega),fun _=>Int.emod_lt_of_pos _ (by omega),fun k=>by omega⟩
theorem z0t(B b T:Nat)(n:Int)(w:World)(hS:Src B w b T)(hT:T≤1099511627776)(hn:n≤1099511627776):
  Calls Tryz.prog 37 #[.pointer (some ⟨b,0,none⟩),.int .i64 n] w fun e w'=>∃r:Int,e=.returned (.int .i64 r)∧InR n r∧Src B w' b (T+1)∧w.grownBy w' (some b):=by
 obtain⟨a,zs,cap,t,h1,h2,h3,h4,h5,h6,h7,h8,h9⟩:=hS;obtain⟨r1,r2⟩:=Src.step h1 h2 h3 h4 h5 h6 h7 h8 h9;have R1:Hid (Src B (w.setCell ⟨b,1,none⟩ (.int .i64 ((t:Int)+1))) b (T+1)):=r1;have R2:Hid (w.grownBy (w.setCell ⟨b,1,none⟩ (.int .i64 ((t:Int)+1))) (some b)):=r2;clear r1 r2;by_cases E:n<1
 ·go_enter Tryz.func37,Tryz.ntmps37
  go_wp2
  go_ret;exact⟨0,rfl,⟨by omega,by omega,fun _=>rfl⟩,R1.out,R2.out⟩
 ·by_cases hz:zs.length=0
  ·have A:((zs.length:Int)==0)=true:=by simp[hz]
   clear h9 hz h7;go_enter Tryz.func37,Tryz.ntmps37
   go_wp2
   go_ret;exact⟨_,rfl,InR.mod _ _ (by omega),R1.out,R2.out⟩
  ·have A:((zs.length:Int)==0)=false:=by rw[beq_eq_false_iff_ne];omega
   have d:0<zs.length:=by omega
   have h:t % zs.length<zs.length:=Nat.mod_lt _ d;have z:(t+1) % zs.length<zs.length:=Nat.mod_lt _ d;have c1:∃b' c,a=some ⟨b',c,none⟩∧(w.setCell ⟨b,1,none⟩ (.int .i64 ((t:Int)+1))).cell? ⟨b',c+t % zs.length,none⟩=some (.int .u8 (zs.getD (t % zs.length) 0))∧(w.setCell ⟨b,1,none⟩ (.int .i64 ((t:Int)+1))).cell? ⟨b',c+(t+1) % zs.length,none⟩=some (.int .u8 (zs.getD ((t+1) % zs.length) 0)):=by
    obtain⟨b',c,rfl,e2,e3⟩:=h9 _ h;obtain⟨b2,D,e4,e5,e6⟩:=h9 _ z;simp only[Option.some.injEq,Addr.mk.injEq,and_true]at e4;obtain⟨rfl,rfl⟩:=e4;refine⟨b',c,rfl,?_,?_⟩
    ·rw[World.cell?_of_block (w:=w) (a:=⟨b',_,none⟩) (Below.heap_setCell w _ _ b' (by simp;omega))];exact e3
    ·rw[World.cell?_of_block (w:=w) (a:=⟨b',_,none⟩) (Below.heap_setCell w _ _ b' (by simp;omega))];exact e6
   obtain⟨b',c,rfl,c1,c2⟩:=c1;have u1:=h8 (t % zs.length);have u2:=h8 ((t+1) % zs.length);have hq:(t:Int) / (zs.length:Int)≤1099511627776:=Int.le_trans (Int.ediv_le_self _ (by omega)) (by omega);have I:0≤(t:Int) / (zs.length:Int):=Int.ediv_nonneg (by omega) (by omega);generalize zs.getD (t % zs.length) 0=x at c1 u1;generalize zs.getD ((t+1) % zs.length) 0=y at c2 u2;have m0:0≤((t:Int)+1) % (zs.length:Int):=Int.emod_nonneg _ (by omega);have m1:((t:Int)+1) % (zs.length:Int)<(zs.length:Int):=Int.emod_lt_of_pos _ (by omega);clear h8 h9 hz;by_cases C:200<n
   focus
    go_enter Tryz.func37,Tryz.ntmps37
    go_wp2
    go_quiet (fail)
   rotate_left
   focus
    go_enter Tryz.func37,Tryz.ntmps37
   rotate_left
   all_goals
    go_wp2
    go_quiet (fail)
    go_wp2
    go_ret;exact⟨_,rfl,InR.mod _ _ (by omega),R1.out.below (Go.below_drewN (Below.refl _ _) _),R2.out.trans ⟨rfl,rfl,rfl,Nat.le_refl _,fun _ _ _=>rfl⟩⟩
theorem z6w(B:Nat)(a:Option Addr)(cap:Nat)(zs:List Int)(w:World)(hB:B≤w.heap.size)(hl:zs.length≤1048576)(hu:∀i,0≤zs.getD i 0∧zs.getD i 0≤255)
  (h:∀i,i<zs.length→∃b' off,a=some ⟨b',off,none⟩∧b'<B∧w.cell? ⟨b',off+i,none⟩=some (.int .u8 (zs.getD i 0))):
  Calls Tryz.prog 35 #[.slice a zs.length cap] w fun e w'=>e=.returned (.pointer (some ⟨w.heap.size,0,none⟩))∧Src B w' w.heap.size 0∧Below w.heap.size w w':=by
 go_enter Tryz.func35,Tryz.ntmps35
 go_wp2
 go_ret;refine⟨rfl,⟨a,zs,cap,0,hB,by simp,by simp,by simp,by simp,Nat.le_refl _,hl,hu,?_⟩,by go_grown⟩;intro i hi;obtain⟨b',off,e1,e2,e3⟩:=h i hi;refine⟨b',off,e1,e2,?_⟩;rw[World.cell?_of_block (w:=w) (a:=⟨b',off+i,none⟩) (Below.heap_alloc w _ b' (by omega))];exact e3
theorem z0U(B b T base:Nat)(v:Value)(xs:List Int)(w:World)(hS:Src B w b T)(hT:T≤1099511627776)(ho:w.ownsRow base 2 1 v xs.length (xs.map (Value.int .i64)))(hx:xs≠[])(hlen:xs.length≤100)(hne:some b≠v.ownBlock):
  Calls Tryz.prog 106 #[.pointer (some ⟨b,0,none⟩),v] w fun e w'=>∃r:Int,e=.returned (.int .i64 r)∧r∈xs∧Src B w' b (T+1)∧w.grownBy w' (some b):=by
 obtain⟨a,k,rfl⟩:=z0b ho;have hpos:0<xs.length:=List.length_pos_iff.2 hx;have hn:=z0t B b T (xs.length:Int) w hS hT (by omega);go_enter Tryz.func106,Tryz.ntmps106
 go_wp2_with fail
 refine hn.mono ?_;rintro e w' ⟨r,rfl,hr,hS',hg⟩;obtain⟨j,rfl⟩:=Int.eq_ofNat_of_zero_le hr.1;have hj:j<xs.length:=by have:=hr.2.1 (by omega);omega
 have ho':=ho.kept hg (Or.inr (fun e=>hne e.symm));obtain⟨b2,off2,rfl,hb2,hc2⟩:=Row.own ho' j hj;have hmem:xs.getD j 0∈xs:=by simp[List.getD,hj]
 generalize xs.getD j 0=x at hc2 hmem;clear hr ho ho' hn
 go_wp2
 go_ret;exact⟨x,rfl,hmem,hS',hg⟩
theorem Src.grown{B b T:Nat}{w w':World}{row:Option Nat}(h:Src B w b T)(hg:w.grownBy w' row)(hne:some b≠row)(hB:∀k,row=some k→B≤k):Src B w' b T:=
 h.kept hg.size (hg.block b h.lt.2 hne) (fun k hk=>hg.block k (by have:=h.lt;omega) (fun e=>by have:=hB k e.symm;omega))
end Go.Proofs.YtciofogeiohleaaGreatDoor

/- Texts joined,with what the laws reach alone. -/
import Derived.Test.YtljbililjlafcaaGreatDoorILAI
import Derived.LaidEql
import Derived.Stop.Asserts
import Derived.RowKitTokens
import Derived.Maps.Own
import Derived.Maps.Keyed
import Derived.Maps.Views
import Derived.DeepKeys4
import Derived.Maps.OwnSet
import Derived.WideKeyEntry
import Derived.ScopeJumps
import Derived.WalkMore
set_option linter.unusedVariables false
set_option linter.unusedSimpArgs false
set_option maxRecDepth 100000
set_option maxHeartbeats 8000000
namespace Go.Proofs.YtljbililjlafcaaGreatDoor
open Go.RowKit Go.BigFrame
def sameRep(x y:RepE):Bool:=sameTs x.done y.done && (sameIs x.base y.base && (sameTs x.tent y.tent && (sameUss x.undos y.undos && sameIs x.now y.now)))
theorem z2r(p q:RepQ)(w:World)(h:repK.rd w p)(h':repK.rd w q)(hl:p.n≤1048576)(d:q.n≤1048576):
  Calls Tryz.prog 122 #[.agg #[p.vd,p.vb,p.vt,p.vu,p.vn],.agg #[q.vd,q.vb,q.vt,q.vu,q.vn]] w fun e w'=>e=.returned (.bool (sameRep p.e q.e))∧Below w.heap.size w w':=by
 obtain⟨y,pd,x,pb,A,pt,C,pu,z,pn⟩:=p;obtain⟨p0,p5,rfl⟩:∃a c,y=.slice a pd.length c:=h.1.shape;obtain⟨p1,p6,rfl⟩:∃a c,x=.slice a pb.length c:=h.2.1.shape;obtain⟨p2,p7,rfl⟩:∃a c,A=.slice a pt.length c:=h.2.2.1.shape;obtain⟨p3,p8,rfl⟩:∃a c,C=.slice a pu.length c:=h.2.2.2.1.shape;obtain⟨p4,p9,rfl⟩:∃a c,z=.slice a pn.length c:=h.2.2.2.2.shape;obtain⟨I,qd,D,qb,L,qt,M,qu,J,qn⟩:=q;obtain⟨q0,q5,rfl⟩:∃a c,I=.slice a qd.length c:=h'.1.shape;obtain⟨q1,q6,rfl⟩:∃a c,D=.slice a qb.length c:=h'.2.1.shape;obtain⟨q2,q7,rfl⟩:∃a c,L=.slice a qt.length c:=h'.2.2.1.shape;obtain⟨q3,q8,rfl⟩:∃a c,M=.slice a qu.length c:=h'.2.2.2.1.shape;obtain⟨q4,q9,rfl⟩:∃a c,J=.slice a qn.length c:=h'.2.2.2.2.shape;dsimp only[RepQ.n]at hl d;have c0:=fun w h h'=>z00 (.slice p0 pd.length p5) (.slice q0 qd.length q5) (pd.map TxnQ.e) (qd.map TxnQ.e) w (z0k h) (z0k h') (by rw[List.length_map,z0u];omega) (by rw[List.length_map,z0u];omega)
 have c1:=fun w h h'=>z1A p1 q1 p6 q6 pb qb w h h' (by omega) (by omega)
 have c2:=fun w h h'=>z00 (.slice p2 pt.length p7) (.slice q2 qt.length q7) (pt.map TxnQ.e) (qt.map TxnQ.e) w (z0k h) (z0k h') (by rw[List.length_map,z0u];omega) (by rw[List.length_map,z0u];omega)
 have c3:=fun w h h'=>z67 (.slice p3 pu.length p8) (.slice q3 qu.length q8) pu qu w h h' (by omega) (by omega)
 have c4:=fun w h h'=>z1A p4 q4 p9 q9 pn qn w h h' (by omega) (by omega)
 obtain⟨r0,r1,r2,r3,r4⟩:txnK.At w (.slice p0 pd.length p5) pd∧itemK.At w (.slice p1 pb.length p6) pb∧txnK.At w (.slice p2 pt.length p7) pt∧ussK.At w (.slice p3 pu.length p8) pu∧itemK.At w (.slice p4 pn.length p9) pn:=h;obtain⟨s0,s1,s2,s3,s4⟩:txnK.At w (.slice q0 qd.length q5) qd∧itemK.At w (.slice q1 qb.length q6) qb∧txnK.At w (.slice q2 qt.length q7) qt∧ussK.At w (.slice q3 qu.length q8) qu∧itemK.At w (.slice q4 qn.length q9) qn:=h';replace r1:=(z0T r1).2;replace r4:=(z0T r4).2;replace s1:=(z0T s1).2;replace s4:=(z0T s4).2;have E:Hid (sameRep ⟨pd.map TxnQ.e,pb,pt.map TxnQ.e,pu.map USQ.e,pn⟩ ⟨qd.map TxnQ.e,qb,qt.map TxnQ.e,qu.map USQ.e,qn⟩=(sameTs (pd.map TxnQ.e) (qd.map TxnQ.e) && (sameIs pb qb && (sameTs (pt.map TxnQ.e) (qt.map TxnQ.e) && (sameUss (pu.map USQ.e) (qu.map USQ.e) && sameIs pn qn))))):=show _=_ from rfl
 dsimp only[RepQ.e];generalize sameTs (pd.map TxnQ.e) (qd.map TxnQ.e)=X0 at*;generalize sameIs pb qb=X1 at*;generalize sameTs (pt.map TxnQ.e) (qt.map TxnQ.e)=X2 at*;generalize sameUss (pu.map USQ.e) (qu.map USQ.e)=X3 at*;generalize sameIs pn qn=X4 at*;generalize sameRep ⟨pd.map TxnQ.e,pb,pt.map TxnQ.e,pu.map USQ.e,pn⟩ ⟨qd.map TxnQ.e,qb,qt.map TxnQ.e,qu.map USQ.e,qn⟩=S at*;have B:=(Blk.new w 73 #[.slice p0 pd.length p5,.slice p1 pb.length p6,.slice p2 pt.length p7,.slice p3 pu.length p8,.slice p4 pn.length p9]).below (w':=((w.alloc (.cells #[.slice p0 pd.length p5,.slice p1 pb.length p6,.slice p2 pt.length p7,.slice p3 pu.length p8,.slice p4 pn.length p9] 73)).alloc (.cells #[.slice q0 qd.length q5,.slice q1 qb.length q6,.slice q2 qt.length q7,.slice q3 qu.length q8,.slice q4 qn.length q9] 73))) (by go_grown);have B':=Blk.new (w.alloc (.cells #[.slice p0 pd.length p5,.slice p1 pb.length p6,.slice p2 pt.length p7,.slice p3 pu.length p8,.slice p4 pn.length p9] 73)) 73 #[.slice q0 qd.length q5,.slice q1 qb.length q6,.slice q2 qt.length q7,.slice q3 qu.length q8,.slice q4 qn.length q9];have hB:Below w.heap.size w ((w.alloc (.cells #[.slice p0 pd.length p5,.slice p1 pb.length p6,.slice p2 pt.length p7,.slice p3 pu.length p8,.slice p4 pn.length p9] 73)).alloc (.cells #[.slice q0 qd.length q5,.slice q1 qb.length q6,.slice q2 qt.length q7,.slice q3 qu.length q8,.slice q4 qn.length q9] 73)):=by go_grown
 rw[World.size_alloc]at B';go_enter Tryz.func122,Tryz.ntmps122;have f0:=B.cell 0 _ rfl;have g0:=B'.cell 0 _ rfl
 go_wp2_with fail
 clear f0 g0;generalize ((w.alloc (.cells #[.slice p0 pd.length p5,.slice p1 pb.length p6,.slice p2 pt.length p7,.slice p3 pu.length p8,.slice p4 pn.length p9] 73)).alloc (.cells #[.slice q0 qd.length q5,.slice q1 qb.length q6,.slice q2 qt.length q7,.slice q3 qu.length q8,.slice q4 qn.length q9] 73))=W at*;refine(c0 W (r0.below hB) (s0.below hB)).mono ?_;rintro e w0 ⟨rfl,hb⟩;replace B:=B.below hb;replace B':=B'.below hb;replace hB:=hB.trans (hb.mono hB.size);clear hb
 cases X0 with
 |false=>
  go_wp2
  go_ret;exact⟨by rw[E.out];rfl,hB⟩
 |true=>
  have f1:=B.cell 1 _ rfl;have g1:=B'.cell 1 _ rfl
  go_wp2_with fail
  clear f1 g1;refine(c1 w0 (r1.below hB) (s1.below hB)).mono ?_;rintro e w1 ⟨rfl,hb⟩;replace B:=B.below hb;replace B':=B'.below hb;replace hB:=hB.trans (hb.mono hB.size);clear hb
  cases X1 with
  |false=>
   go_wp2
   go_ret;exact⟨by rw[E.out];rfl,hB⟩
  |true=>
   have f2:=B.cell 2 _ rfl;have g2:=B'.cell 2 _ rfl
   go_wp2_with fail
   clear f2 g2;refine(c2 w1 (r2.below hB) (s2.below hB)).mono ?_;rintro e w2 ⟨rfl,hb⟩;replace B:=B.below hb;replace B':=B'.below hb;replace hB:=hB.trans (hb.mono hB.size);clear hb
   cases X2 with
   |false=>
    go_wp2
    go_ret;exact⟨by rw[E.out];rfl,hB⟩
   |true=>
    have f3:=B.cell 3 _ rfl;have g3:=B'.cell 3 _ rfl
    go_wp2_with fail
    clear f3 g3;refine(c3 w2 (r3.below hB) (s3.below hB)).mono ?_;rintro e w3 ⟨rfl,hb⟩;replace B:=B.below hb;replace B':=B'.below hb;replace hB:=hB.trans (hb.mono hB.size);clear hb
    cases X3 with
    |false=>
     go_wp2
     go_ret;exact⟨by rw[E.out];rfl,hB⟩
    |true=>
     have f4:=B.cell 4 _ rfl;have g4:=B'.cell 4 _ rfl
     go_wp2_with fail
     clear f4 g4;refine(c4 w3 (r4.below hB) (s4.below hB)).mono ?_;rintro e w4 ⟨rfl,hb⟩;replace B:=B.below hb;replace B':=B'.below hb;replace hB:=hB.trans (hb.mono hB.size);clear hb
     go_wp2
     go_ret;exact⟨by rw[E.out];rfl,hB⟩
section
open Go.Extern.Stop Go.Stop Go.Extern
theorem q37(t:Value)(w:World):
  Calls Tryz.prog 124 #[.nilIface,t] w fun e w'=>e=.returned (.bool false)∧w'=w:=by
 go_enter Tryz.func124,Tryz.ntmps124
 go_wp2
 go_ret;exact⟨rfl,rfl⟩
theorem z6h(t:Addr)(w:World):(ReflectliteValue.unpack (.iface 201 (.pointer (some t)))).run Tryz.prog w
  =.ok (.agg #[.pointer (some ⟨2,201,none⟩),.pointer (some ⟨w.heap.size,0,none⟩),.int .u64 150]) (w.alloc (.cells #[.pointer (some t)] 201)):=by kernel_rfl
theorem z9n (a : Addr) (w : World) : (ReflectliteValue.methodAny (ReflectliteValue.valueError "reflectlite.Value.Type" 0) (fun t _ _ _ => ReflectliteType.toType t) #[.agg #[.pointer (some ⟨2, 201, none⟩), .pointer (some a), .int .u64 150]]).run Tryz.prog w
  =.ok (.iface 279 (.agg #[.pointer (some ⟨2,201,none⟩)])) w:=by kernel_rfl
theorem z5i (h : Value) (w : World) : (Go.method 247 279 (.agg #[h]) "Kind").run Tryz.prog w = .ok (255, h) w := by kernel_rfl
theorem z9o(w:World):((ReflectliteType.abiMethod fun t=>(fun a:Nat=>Value.int IntKind.u8 (a:Int))<$>Rtype.kind t) #[.pointer (some ⟨2,201,none⟩)]).run Tryz.prog w=.ok (.int .u8 22) w:=by kernel_rfl
theorem z9p(w:World):((ReflectliteType.abiMethod fun t=>(fun a:Nat=>Value.int IntKind.u8 (a:Int))<$>Rtype.kind t) #[.pointer (some ⟨2,196,none⟩)]).run Tryz.prog w=.ok (.int .u8 25) w:=by kernel_rfl
theorem q0L(z:Sem Value)(f:TypeId→Addr→Nat→Nat→Sem Value)(v:Value):
  ReflectliteValue.method z f #[v]=(do match←ReflectliteValue.parts v with|none=>z|some (t,a,fl)=>f t a fl (fl % 32)):=rfl
theorem z4G(a:Addr)(w:World):(ReflectliteValue.parts (.agg #[.pointer (some ⟨2,201,none⟩),.pointer (some a),.int .u64 150])).run Tryz.prog w=.ok (some (201,a,150)) w:=by kernel_rfl
theorem z75(a p:Addr)(W:World)(ha:W.cell? a=some (.pointer (some p))):
  (ReflectliteValue.method (ReflectliteValue.valueError "reflectlite.Value.IsNil" 0) ReflectliteValue.isNil #[.agg #[.pointer (some ⟨2, 201, none⟩), .pointer (some a), .int .u64 150]]).run Tryz.prog W = .ok (.bool false) W := by
 rw[q0L];simp only[Sem.run_bind,z4G,Result.andThen];simp[ReflectliteValue.isNil,loadVar,isAgg,underlying,Tryz.underlying201,ha,Result.andThen]
theorem z5j (h : Value) (w : World) : (Go.method 247 279 (.agg #[h]) "Elem").run Tryz.prog w = .ok (269, .agg #[h]) w := by kernel_rfl
theorem z2s (h : Value) (w : World) : (Go.method 247 279 (.agg #[h]) "Implements").run Tryz.prog w = .ok (270, .agg #[h]) w := by kernel_rfl
theorem z10 (h : Value) (w : World) : (Go.method 247 279 (.agg #[h]) "AssignableTo").run Tryz.prog w = .ok (267, .agg #[h]) w := by kernel_rfl
theorem z9q(w:World):(ReflectliteType.method ReflectliteType.elem #[.agg #[.pointer (some ⟨2,201,none⟩)]]).run Tryz.prog w=.ok (.iface 279 (.agg #[.pointer (some ⟨2,196,none⟩)])) w:=by kernel_rfl
theorem z3W (w : World) : (ReflectliteType.relation "Implements" ReflectliteType.implements_ #[.agg #[.pointer (some ⟨2, 196, none⟩)], .iface 279 (.agg #[.pointer (some ⟨2, 162, none⟩)])]).run Tryz.prog w = .ok (.bool true) w := by kernel_rfl
theorem z68(v:Value)(w:World):(ReflectliteType.typeOf #[.iface 196 v]).run Tryz.prog w=.ok (.iface 279 (.agg #[.pointer (some ⟨2,196,none⟩)])) w:=by kernel_rfl
theorem z3X (w : World) : (ReflectliteType.relation "AssignableTo" ReflectliteType.assignableTo #[.agg #[.pointer (some ⟨2, 196, none⟩)], .iface 279 (.agg #[.pointer (some ⟨2, 196, none⟩)])]).run Tryz.prog w = .ok (.bool true) w := by kernel_rfl
theorem z6i(c:Int)(w:World):(ReflectliteValue.unpack (.iface 196 (.agg #[.int .i64 c]))).run Tryz.prog w
  =.ok (.agg #[.pointer (some ⟨2,196,none⟩),.pointer (some ⟨w.heap.size,0,none⟩),.int .u64 153]) (w.alloc (.cells #[.int .i64 c] 196)):=by kernel_rfl
theorem z69(w:World):(Rtype.elem? 201).run Tryz.prog w=.ok (some 196) w:=by kernel_rfl
theorem q12(p:Addr)(w:World):(ReflectliteValue.mk 196 p ReflectliteValue.flagAddr).run Tryz.prog w=.ok (.agg #[.pointer (some ⟨2,196,none⟩),.pointer (some p),.int .u64 409]) w:=by kernel_rfl
theorem z76(a p:Addr)(W:World)(ha:W.cell? a=some (.pointer (some p))):
  (ReflectliteValue.method (ReflectliteValue.valueError "reflectlite.Value.Elem" 0) ReflectliteValue.elem #[.agg #[.pointer (some ⟨2, 201, none⟩), .pointer (some a), .int .u64 150]]).run Tryz.prog W
   =.ok (.agg #[.pointer (some ⟨2,196,none⟩),.pointer (some p),.int .u64 409]) W:=by
 rw[q0L];simp only[Sem.run_bind,z4G,Result.andThen];simp[ReflectliteValue.elem,loadVar,isAgg,underlying,Tryz.underlying201,ha,Result.andThen,z69,q12]
theorem q3m (v x:Value):ReflectliteValue.set #[v,x]=(do
  let(some (dst,a,fl),some (src,b,_)):=(←ReflectliteValue.parts v,←ReflectliteValue.parts x)
   | unsupported (.noEntry "extern/(internal/reflectlite.Value).Set.zeroValue")
  if fl / ReflectliteValue.flagAddr % 2 == 0 then unsupported (.noEntry "extern/(internal/reflectlite.Value).Set.unaddressable")
  let val←loadVar src b
  if←Rtype.directlyAssignable dst src then storeVar dst a val
  else if←Rtype.implements dst src then
   if(←Rtype.kind src)==20 then
    match val with
    | .nilIface => unsupported (.noEntry "extern/reflectlite: a nil value of one interface type handed on as a value of another")
    |_=>storeVar dst a val
   else storeVar dst a (.iface src val)
  else panicString ("reflectlite.Set: value of type " ++ (← Rtype.spelt src) ++ " is not assignable to type " ++ (← Rtype.spelt dst))
  pure (.tuple #[])):=rfl
theorem z7a(a:Addr)(w:World):(ReflectliteValue.parts (.agg #[.pointer (some ⟨2,196,none⟩),.pointer (some a),.int .u64 409])).run Tryz.prog w=.ok (some (196,a,409)) w:=by kernel_rfl
theorem z77(a:Addr)(w:World):(ReflectliteValue.parts (.agg #[.pointer (some ⟨2,196,none⟩),.pointer (some a),.int .u64 153])).run Tryz.prog w=.ok (some (196,a,153)) w:=by kernel_rfl
theorem z7b(w:World):(Rtype.directlyAssignable 196 196).run Tryz.prog w=.ok true w:=by kernel_rfl
theorem z5A(w:World):(sizeOf 196).run Tryz.prog w=.ok 1 w:=by kernel_rfl
theorem q38(b:Addr)(c:Int)(W:World)(hb:W.cell? b=some (.int .i64 c)):(loadVar 196 b).run Tryz.prog W=.ok (.agg #[.int .i64 c]) W:=by
 have h1:(loadCells b 1).run Tryz.prog W=.ok #[.int .i64 c] W:=run_loadCells_list (P:=Tryz.prog) (w:=W) b [.int .i64 c] (fun j v hj=>by
  match j,hj with
  | 0,hj=>simp at hj;subst hj;simpa [Addr.add] using hb)
 unfold loadVar;simp only[Sem.run_bind];have h2:(isAgg 196).run Tryz.prog W=.ok true W:=by simp[isAgg,underlying,Tryz.underlying196,Result.andThen]
 rw[h2];simp[Result.andThen,z5A,h1]
theorem q39(ta:Addr)(c:Int)(old:Value)(W:World)(ht:W.cell? ta=some old)(hf:W.frozen? ta=false):(storeVar 196 ta (.agg #[.int .i64 c])).run Tryz.prog W=.ok () (W.setCell ta (.int .i64 c)):=by
 unfold storeVar;simp[z5A,Value.cells,storeCells,Result.andThen,Addr.add];rw[run_store Tryz.prog W ta _ _ (by rfl)];simp[ht,hf]
theorem q0M(ta b:Addr)(c:Int)(old:Value)(W:World)(hb:W.cell? b=some (.int .i64 c))(ht:W.cell? ta=some old)(hf:W.frozen? ta=false):
  (ReflectliteValue.set #[.agg #[.pointer (some ⟨2,196,none⟩),.pointer (some ta),.int .u64 409],.agg #[.pointer (some ⟨2,196,none⟩),.pointer (some b),.int .u64 153]]).run Tryz.prog W
   =.ok (.tuple #[]) (W.setCell ta (.int .i64 c)):=by
 rw[q3m];simp only[Sem.run_bind,z7a,z77,Result.andThen];simp[ReflectliteValue.flagAddr,Result.andThen,z7b,q38 b c W hb,q39 ta c old W ht hf]
theorem q4a(c:Int)(t:Addr)(old:Value)(w:World)(hg:w.cell? ⟨0,0,none⟩=some (.iface 279 (.agg #[.pointer (some ⟨2,162,none⟩)])))(ht0:w.cell? t=some old)(hf0:w.frozen? t=false):
  Calls Tryz.prog 124 #[.iface 196 (.agg #[.int .i64 c]),.iface 201 (.pointer (some t))] w fun ev w'=>ev=.returned (.bool true)∧w'=((((w.alloc (.cells #[.pointer (some t)] 201)).alloc (.cells #[.pointer (some ⟨2,201,none⟩),.pointer (some ⟨w.heap.size,0,none⟩),.int .u64 150] 244)).alloc (.cells #[.pointer (some ⟨2,201,none⟩),.pointer (some ⟨w.heap.size,0,none⟩),.int .u64 150] 244)).alloc (.cells #[.int .i64 c] 196)).setCell t (.int .i64 c):=by
 have h6:=@run_callFunc_extern Tryz.prog 156 _ (fun args=>ReflectliteValue.unpack (args.getD 0 (.tuple #[]))) Tryz.func156 (by kernel_rfl) (by kernel_rfl) (by kernel_rfl) (by kernel_rfl);have h7 := @run_callFunc_extern Tryz.prog 157 _ (ReflectliteValue.methodAny (ReflectliteValue.valueError "reflectlite.Value.Type" 0) (fun t _ _ _ => ReflectliteType.toType t)) Tryz.func157 (by kernel_rfl) (by kernel_rfl) (by kernel_rfl) (by kernel_rfl)
 have h8 := @run_callFunc_extern Tryz.prog 158 _ (ReflectliteValue.method (ReflectliteValue.valueError "reflectlite.Value.IsNil" 0) ReflectliteValue.isNil) Tryz.func158 (by kernel_rfl) (by kernel_rfl) (by kernel_rfl) (by kernel_rfl)
 have h27:=@run_callFunc_extern Tryz.prog 255 _ (ReflectliteType.abiMethod fun t=>do pure (.int .u8 (←Rtype.kind t))) Tryz.func255 (by kernel_rfl) (by kernel_rfl) (by kernel_rfl) (by kernel_rfl);have h37:=@run_callFunc_extern Tryz.prog 269 _ (ReflectliteType.method ReflectliteType.elem) Tryz.func269 (by kernel_rfl) (by kernel_rfl) (by kernel_rfl) (by kernel_rfl);have h38 := @run_callFunc_extern Tryz.prog 270 _ (ReflectliteType.relation "Implements" ReflectliteType.implements_) Tryz.func270 (by kernel_rfl) (by kernel_rfl) (by kernel_rfl) (by kernel_rfl)
 have h10:=@run_callFunc_extern Tryz.prog 185 _ ReflectliteType.typeOf Tryz.func185 (by kernel_rfl) (by kernel_rfl) (by kernel_rfl) (by kernel_rfl);have h35 := @run_callFunc_extern Tryz.prog 267 _ (ReflectliteType.relation "AssignableTo" ReflectliteType.assignableTo) Tryz.func267 (by kernel_rfl) (by kernel_rfl) (by kernel_rfl) (by kernel_rfl)
 have h11 := @run_callFunc_extern Tryz.prog 186 _ (ReflectliteValue.method (ReflectliteValue.valueError "reflectlite.Value.Elem" 0) ReflectliteValue.elem) Tryz.func186 (by kernel_rfl) (by kernel_rfl) (by kernel_rfl) (by kernel_rfl)
 have h12:=@run_callFunc_extern Tryz.prog 187 _ ReflectliteValue.set Tryz.func187 (by kernel_rfl) (by kernel_rfl) (by kernel_rfl) (by kernel_rfl);have tO:=z68;have mA:=z10;have a25:=z3X;have v25:=z6i;have f6:=z6h;have f7:=z9n;have mK:=z5i;have mE:=z5j;have mI:=z2s;have k27:=z9o;have k25:=z9p;have e27:=z9q;have i25:=z3W;have n8:=z75 ⟨w.heap.size,0,none⟩ t ((w.alloc (.cells #[.pointer (some t)] 201)).alloc (.cells #[.pointer (some ⟨2,201,none⟩),.pointer (some ⟨w.heap.size,0,none⟩),.int .u64 150] 244)) (by simp);have hlt:0<w.heap.size:=World.block_lt_of_cell? w _ hg;have hg2:((w.alloc (.cells #[.pointer (some t)] 201)).alloc (.cells #[.pointer (some ⟨2,201,none⟩),.pointer (some ⟨w.heap.size,0,none⟩),.int .u64 150] 244)).cell? ⟨0,0,none⟩=some (.iface 279 (.agg #[.pointer (some ⟨2,162,none⟩)])):=by
  rw[World.cell?_alloc_lt _ _ ⟨0,0,none⟩ (by simp only[World.size_alloc];omega),World.cell?_alloc_lt _ _ ⟨0,0,none⟩ hlt];exact hg
 have htl:t.block<w.heap.size:=by
  rcases Nat.lt_or_ge t.block w.heap.size with h|h
  ·exact h
  ·simp[World.cell?,Array.getElem?_eq_none h]at ht0
 have el:=z76 ⟨w.heap.size,0,none⟩ t (((w.alloc (.cells #[.pointer (some t)] 201)).alloc (.cells #[.pointer (some ⟨2,201,none⟩),.pointer (some ⟨w.heap.size,0,none⟩),.int .u64 150] 244)).alloc (.cells #[.pointer (some ⟨2,201,none⟩),.pointer (some ⟨w.heap.size,0,none⟩),.int .u64 150] 244)) (by rw[World.cell?_alloc_lt _ _ ⟨w.heap.size,0,none⟩ (by simp;omega)];simp);have st:=q0M t ⟨w.heap.size+1+1+1,0,none⟩ c old ((((w.alloc (.cells #[.pointer (some t)] 201)).alloc (.cells #[.pointer (some ⟨2,201,none⟩),.pointer (some ⟨w.heap.size,0,none⟩),.int .u64 150] 244)).alloc (.cells #[.pointer (some ⟨2,201,none⟩),.pointer (some ⟨w.heap.size,0,none⟩),.int .u64 150] 244)).alloc (.cells #[.int .i64 c] 196))
  (by rw[World.cell?_alloc_at _ _ _ _ (by simp)];rfl)
  (by rw[World.cell?_alloc_lt _ _ t (by simp;omega),World.cell?_alloc_lt _ _ t (by simp;omega),World.cell?_alloc_lt _ _ t (by simp;omega),World.cell?_alloc_lt _ _ t htl];exact ht0)
  (by rw[World.frozen?_alloc_old _ _ t (by simp;omega),World.frozen?_alloc_old _ _ t (by simp;omega),World.frozen?_alloc_old _ _ t (by simp;omega),World.frozen?_alloc_old _ _ t (Nat.ne_of_lt htl)];exact hf0)
 go_enter Tryz.func124,Tryz.ntmps124
 go_wp2
 refine wp_loop_rounds 1 ?_;rw[rounds_succ]
 go_wp2
 go_ret;exact⟨rfl,rfl⟩
def ErrT(w:World):Prop:=w.cell? ⟨0,0,none⟩=some (.iface 279 (.agg #[.pointer (some ⟨2,162,none⟩)]))
theorem ErrT.below{w w':World}(h:ErrT w)(hb:Below w.heap.size w w'):ErrT w':=by
 have hlt:0<w.heap.size:=World.block_lt_of_cell? w _ h;exact(hb.cell (p:=⟨0,0,none⟩) hlt).trans h
theorem z9r(w:World):Calls Tryz.prog 94 #[.nilIface] w fun e w'=>e=.returned (.int .i64 0)∧Below w.heap.size w w':=by
 have hB:Below w.heap.size w (w.alloc (.cells #[.int .i64 0] 196)):=by go_grown
 go_enter Tryz.func94,Tryz.ntmps94
 go_wp2_with fail
 refine(q37 _ _).mono ?_;rintro e w1 ⟨rfl,rfl⟩
 go_wp2
 go_ret;exact⟨rfl,hB⟩
theorem z9s(c:Int)(w:World)(hg:ErrT w):Calls Tryz.prog 94 #[.iface 196 (.agg #[.int .i64 c])] w fun e w'=>e=.returned (.int .i64 c)∧Below w.heap.size w w':=by
 have hB:Below w.heap.size w (w.alloc (.cells #[.int .i64 0] 196)):=by go_grown
 have B:=Blk.new w 196 #[.int .i64 0];have h0:=B.cell 0 _ rfl;have hf:=B.frozen 0;have hlt:=B.lt;go_enter Tryz.func94,Tryz.ntmps94
 go_wp2_with fail
 have hg':=hg.below hB;generalize w.alloc (.cells #[.int .i64 0] 196)=W at*;generalize hgs:w.heap.size=g at*;refine(q4a c ⟨g,0,none⟩ (.int .i64 0) W hg' h0 hf).mono ?_;rintro e w1 ⟨rfl,rfl⟩;have hb2:Below W.heap.size W ((((W.alloc (.cells #[.pointer (some ⟨g,0,none⟩)] 201)).alloc (.cells #[.pointer (some ⟨2,201,none⟩),.pointer (some ⟨W.heap.size,0,none⟩),.int .u64 150] 244)).alloc (.cells #[.pointer (some ⟨2,201,none⟩),.pointer (some ⟨W.heap.size,0,none⟩),.int .u64 150] 244)).alloc (.cells #[.int .i64 c] 196)):=by go_grown
 have B2:=B.below hb2;have hB2:=hB.trans (hb2.mono (by rw[←hgs];exact hB.size));generalize (((W.alloc (.cells #[.pointer (some ⟨g,0,none⟩)] 201)).alloc (.cells #[.pointer (some ⟨2,201,none⟩),.pointer (some ⟨W.heap.size,0,none⟩),.int .u64 150] 244)).alloc (.cells #[.pointer (some ⟨2,201,none⟩),.pointer (some ⟨W.heap.size,0,none⟩),.int .u64 150] 244)).alloc (.cells #[.int .i64 c] 196)=W2 at*;have c3:(W2.setCell ⟨g,0,none⟩ (.int .i64 c)).cell? ⟨g,0,none⟩=some (.int .i64 c):=by
  have:W2.heap[g]?=some (.cells #[.int .i64 0] 196 (0,0)):=B2;simp[World.cell?,World.setCell,Array.getElem?_modify,this]
 have hB3:Below g w (W2.setCell ⟨g,0,none⟩ (.int .i64 c)):=hB2.setCell (p:=⟨g,0,none⟩) (Nat.le_refl _) _;generalize W2.setCell ⟨g,0,none⟩ (.int .i64 c)=W3 at*
 go_wp2
 go_ret;exact⟨rfl,by rw[hgs];exact hB3⟩
end
def InstQ.setR(q:InstQ)(r n:Nat)(x:Int)(hr:r<q.rounds.length):InstQ:=⟨q.has,q.vb,q.batch,q.vr,q.rounds.set r ⟨q.rounds[r].vr,q.rounds[r].rep.set n x,q.rounds[r].vp,q.rounds[r].pro⟩,q.vd,q.dec⟩
theorem z7c{w w':World}{b o:Nat}{v:Value}(h:w.cell? ⟨b,o,none⟩=some v)(hb:Below w.heap.size w w'):w'.cell? ⟨b,o,none⟩=some v:=by
 have hlt:b<w.heap.size:=by
  rcases Nat.lt_or_ge b w.heap.size with h1|h1
  ·exact h1
  ·exfalso
   have:w.heap[b]?=none:=Array.getElem?_eq_none h1;simp[World.cell?,this]at h
 rw[hb.cell (p:=⟨b,o,none⟩) hlt];exact h
theorem q13{ds:List TxnD}(h:allF ds=0):∀d∈ds,d.F=0:=by
 induction ds with
 |nil=>intro d hd;simp at hd
 |cons x r ih=>
  intro d hd;simp only[allF]at h;by_cases hx:x.F=0
  ·rw[if_pos hx]at h;rcases List.mem_cons.1 hd with rfl|hd
   ·exact hx
   ·exact ih h d hd
  ·rw[if_neg hx]at h;exact absurd h hx
def dfC(ds:List InstE)(n:Int):Int:=if ordF ds=0 then(if 0≤n∧n≤(decN ds:Int)then 0 else 3)else ordF ds
def dfT(ds:List InstE)(n:Int):List TxnD:=if dfC ds n=0 then defL ds n.toNat else []
theorem z78(ds:List InstE)(n:Int):(ordF ds≠0∧dfC ds n=ordF ds∧dfT ds n=[])∨(ordF ds=0∧¬(0≤n∧n≤(decN ds:Int))∧dfC ds n=3∧dfT ds n=[])∨(ordF ds=0∧(0≤n∧n≤(decN ds:Int))∧dfC ds n=0∧dfT ds n=defL ds n.toNat):=by
 unfold dfT dfC;by_cases h0:ordF ds=0
 ·by_cases h1:0≤n∧n≤(decN ds:Int)
  ·right;right;refine⟨h0,h1,?_,?_⟩
   ·rw[if_pos h0,if_pos h1]
   ·rw[if_pos h0,if_pos h1,if_pos rfl]
  ·right;left;refine⟨h0,h1,?_,?_⟩
   ·rw[if_pos h0,if_neg h1]
   ·rw[if_pos h0,if_neg h1,if_neg (by decide)]
 ·left;simp[h0]
theorem q4Q{p:InstQ}(h:insF (InstQ.e p)=0):p.batch.length≤4:=by
 obtain⟨h0,_⟩:=z1K h;obtain⟨_,_,_,hb0,hb1⟩:=z1c h0
 cases hh:(InstQ.e p).has with
 |false=>
  have:=hb0 hh;have h2:p.batch.map TxnQ.e=[]:=this;have:p.batch=[]:=by simpa using h2
  rw[this];simp
 |true=>
  have:=hb1 hh;unfold batF at this;by_cases hl:(InstQ.e p).batch.length<1∨4<(InstQ.e p).batch.length
  ·rw[if_pos hl]at this;exact absurd this (by decide)
  ·have h2:(InstQ.e p).batch.length=p.batch.length:=by show(p.batch.map TxnQ.e).length=_;simp
   omega
theorem rgtb{x:InstE}(h:insF x=0):x.has=false→x.batch=[]:=by
 obtain⟨h0,_⟩:=z1K h;exact(z1c h0).2.2.2.1
theorem batp{p:InstQ}(h:insF (InstQ.e p)=0)(hh:p.has=true):0<p.batch.length:=by
 obtain⟨h0,_⟩:=z1K h;have:=(z1c h0).2.2.2.2 hh;unfold batF at this;by_cases hl:(InstQ.e p).batch.length<1∨4<(InstQ.e p).batch.length
 ·rw[if_pos hl]at this;exact absurd this (by decide)
 ·have h2:(InstQ.e p).batch.length=p.batch.length:=by show(p.batch.map TxnQ.e).length=_;simp
  omega
theorem q3n{ds:List InstE}(k:Nat)(hk:k<ds.length)(h0:insF (ds.getD k z0K)=0)(h:((ds.getD k z0K).has && (ocV (ds.getD k z0K)==1))=true):z3m (ds.take (k+1))=z3m (ds.take k)++(ds.getD k z0K).batch:=by
 rw[z4D ds k hk];rw[Bool.and_eq_true,beq_iff_eq]at h;have hv:=h.2;unfold ocV at hv;rw[if_pos h0]at hv;by_cases h3:outV (ds.getD k z0K).dec=3
 ·rw[if_pos h3]at hv;exact absurd hv (by decide)
 ·rw[if_neg h3]at hv;rw[if_pos hv]
theorem q4b{ds:List InstE}(k:Nat)(hk:k<ds.length)(h0:insF (ds.getD k z0K)=0)(h:((ds.getD k z0K).has && (ocV (ds.getD k z0K)==1))=false):z3m (ds.take (k+1))=z3m (ds.take k):=by
 rw[z4D ds k hk];rw[Bool.and_eq_false_iff]at h;have hb0:=(rgtb h0)
 rcases h with h|h
 ·rw[hb0 h];simp
 ·have hv:¬ocV (ds.getD k z0K)=1:=by simpa using h
  unfold ocV at hv;rw[if_pos h0]at hv;by_cases h3:outV (ds.getD k z0K).dec=3
  ·rw[if_neg (by rw[h3];decide)];simp
  ·rw[if_neg h3]at hv;rw[if_neg hv];simp
theorem z79(v:Value)(ps:List InstQ)(w:World)(hG:Rul w)(h:instK.At w v ps)(av:∀p∈ps,insF (InstQ.e p)=0)(h4:ps.length≤4)(hl:(ps.length+nmL InstQ.n ps)≤1048576):
  Calls Tryz.prog 70 #[v] w fun e w'=>∃ (v':Value) (qs:List TxnQ),e=.returned v'∧qs.map TxnQ.e=z3m (ps.map InstQ.e)∧qs.length≤16∧w'.ownsRow w.heap.size 82 4 v' qs.length (txnK.row qs)∧(∀q∈qs,txnK.rd w q)∧Below w.heap.size w w':=by
 obtain⟨a,cap,rfl⟩:=h.shape;obtain⟨i0,hi,az,aA,aB⟩:=info_parts z09;have ai:w.ownsRow w.heap.size 82 4 (.slice none 0 0) ([]:List TxnQ).length (txnK.row []):=World.ownsRow_nil _ _ _ _;have ad:Hid (([]:List TxnQ).map TxnQ.e=z3m ((ps.map InstQ.e).take 0)):=by show _=_;simp[z3m]
 have ae:Hid (([]:List TxnQ).length≤4*0):=by show _≤_;simp
 have ag:Hid (∀q∈([]:List TxnQ),txnK.rd w q):=fun q hq=>by simp at hq
 go_enter Tryz.func70,Tryz.ntmps70
 go_wp2
 go_loopw[3,8] (fun v j wr=>∃ (k:Nat) (qs:List TxnQ),k≤ps.length∧j=.int .i64 k∧Hid (qs.map TxnQ.e=z3m ((ps.map InstQ.e).take k))∧Hid (qs.length≤4*k)∧wr.ownsRow w.heap.size 82 4 v qs.length (txnK.row qs)∧Hid (∀q∈qs,txnK.rd w q)∧Below w.heap.size w wr) (fun _ j _=>ps.length-(intOf j).toNat)
 case atStart=>exact⟨0,[],Nat.zero_le _,rfl,ad,ae,ai,ag,Below.refl _ _⟩
 case round=>
  clear ad ae ai ag;obtain⟨k,qs,hk,rfl,HE,HL,hO,HR,hb⟩:=hrel;obtain⟨sa,sc,rfl⟩:=z0g hO;by_cases A:k<ps.length
  ·have h0:=av _ (List.getElem_mem A);have z:=z4A ps k A;have HY:Hid ((ps[k].has && (ocV (InstQ.e ps[k])==1))=true→z3m ((ps.map InstQ.e).take (k+1))=qs.map TxnQ.e++ps[k].batch.map TxnQ.e):=fun hx=>by
    rw[HE.out];have:=q3n (ds:=ps.map InstQ.e) k (by simpa using A) (by rw[z];exact h0) (by rw[z];exact hx);rw[z]at this;exact this
   have HN:Hid ((ps[k].has && (ocV (InstQ.e ps[k])==1))=false→z3m ((ps.map InstQ.e).take (k+1))=qs.map TxnQ.e):=fun hx=>by
    rw[HE.out];exact q4b (ds:=ps.map InstQ.e) k (by simpa using A) (by rw[z];exact h0) (by rw[z];exact hx)
   have ao:=q4Q h0;have D:Hid (ps[k].has=true→0<ps[k].batch.length):=fun hx=>batp h0 hx
   have hn:InstQ.n ps[k]≤1048576:=by have:=z5z ps k A;omega
   have T:=z2a ps[k];have M:=fun w hG h=>T w hG h hn
   obtain⟨b,aC,rfl,ar,hc,O⟩:=h.cell (by decide) k A;have I:∀j x,(instK.cells ps[k])[j]?=some x→w.cell? ⟨b,aC+k*4+j,none⟩=some x:=hc;have c0:=z7c (I 0 (.bool ps[k].has) rfl) hb;have c1:=z7c (I 1 ps[k].vb rfl) hb;have c2:=z7c (I 2 ps[k].vr rfl) hb;have c3:=z7c (I 3 ps[k].vd rfl) hb;rw[Nat.add_zero]at c0;have aD:b<wr.heap.size:=Nat.lt_of_lt_of_le ar hb.size;clear hc I T h0 z HE;generalize ocC (InstQ.e ps[k])=OC at*;generalize ocV (InstQ.e ps[k])=OV at*;generalize ps[k]=p at*;obtain⟨has,vb,d,vr,y,vd,dec⟩:=p;have hT:txnK.At w vb d:=O.1;obtain⟨ba,bk,rfl⟩:=hT.shape;obtain⟨va,vk,rfl⟩:∃a c,vr=.slice a y.length c:=O.2.1.shape;obtain⟨da,dk,rfl⟩:∃a c,vd=.slice a dec.length c:=O.2.2.shape;dsimp only at c0 c1 c2 c3 M HY HN ao D;have ab:Below wr.heap.size wr (wr.alloc (.cells #[.bool has,.slice ba d.length bk,.slice va y.length vk,.slice da dec.length dk] 44)):=by go_grown
   have Yb:=Blk.new wr 44 #[.bool has,.slice ba d.length bk,.slice va y.length vk,.slice da dec.length dk];replace hO:=z0d hO ab;replace hb:=hb.trans (ab.mono hb.size);have aE:=q3i OC OV;have af:Hid (qs.length≤16):=show _≤_ by have:=HL.out;omega
   cases has with
   |false=>
    have E:Hid (qs.map TxnQ.e=z3m ((ps.map InstQ.e).take (k+1))):=show _=_ by rw[HN.out rfl]
    have C:Hid (qs.length≤4*(k+1)):=show _≤_ by have:=HL.out;omega
    clear HY HN D HL M Yb
    go_wp2_with fail
    generalize wr.alloc (.cells #[.bool false,.slice ba d.length bk,.slice va y.length vk,.slice da dec.length dk] 44)=Y at*
    go_wp2
    go_roundw
    case rel=>exact⟨k+1,qs,by omega,by go_num,E,C,hO,HR,hb⟩
    case measure=>simp[intOf];omega
   |true=>
    have am:=instK.rd_below (w':=wr.alloc (.cells #[.bool true,.slice ba d.length bk,.slice va y.length vk,.slice da dec.length dk] 44)) O hb
    go_wp2_with fail
    generalize wr.alloc (.cells #[.bool true,.slice ba d.length bk,.slice va y.length vk,.slice da dec.length dk] 44)=Y at*;clear c0 c1 c2 c3 ab;refine(M Y (hG.below hb) am).mono ?_;rintro e w2 ⟨rfl,L⟩;replace hO:=z0d hO L;replace hb:=hb.trans (L.mono hb.size);replace Yb:=Yb.below L;clear L M am
    cases hv:(OV==1)with
    |false=>
     have E:Hid (qs.map TxnQ.e=z3m ((ps.map InstQ.e).take (k+1))):=show _=_ by rw[HN.out (by rw[hv];rfl)]
     have C:Hid (qs.length≤4*(k+1)):=show _≤_ by have:=HL.out;omega
     clear HY HN D HL Yb
     go_wp2
     go_roundw
     case rel=>exact⟨k+1,qs,by omega,by go_num,E,C,hO,HR,hb⟩
     case measure=>simp[intOf];omega
    |true=>
     have ah:=HY.out (by rw[hv];rfl);have ax:=D.out (by simp);have E:Hid ((qs++d).map TxnQ.e=z3m ((ps.map InstQ.e).take (k+1))):=show _=_ by rw[ah,List.map_append]
     have C:Hid ((qs++d).length≤4*(k+1)):=show _≤_ by have:=HL.out;rw[List.length_append];omega
     have an:Hid (∀q∈qs++d,txnK.rd w q):=fun q hq=>by
      rcases List.mem_append.1 hq with hq|hq
      ·exact HR.out q hq
      ·obtain⟨a9,c9,e9,Z,N⟩:=hT;exact N q hq
     have aa:=hT.below hb;obtain⟨bb,bo,aq⟩:∃bb bo,ba=some ⟨bb,bo,none⟩:=by
      obtain⟨b9,o9,e9,_⟩:=aa.cell (by decide) 0 ax;exact⟨b9,o9,e9⟩
     subst aq;have X:∀j u,(txnK.row d)[j]?=some u→w2.cell? ((⟨bb,bo,none⟩:Addr).add j)=some u:=fun j u hu=>by
      obtain⟨a9,c9,e9,Z,N⟩:=aa;simp only[Value.slice.injEq]at e9;obtain⟨rfl,_,rfl⟩:=e9;rcases Z with h9|⟨b9,o9,ea,_,au⟩
      ·rw[h9]at hu;simp at hu
      ·simp only[Option.some.injEq,Addr.mk.injEq,and_true]at ea;obtain⟨rfl,rfl⟩:=ea;rw[Addr.add_lit];exact au j u hu
     have U:∀u∈txnK.row d,u.oneCell'=true:=fun u hu=>by
      obtain⟨q,hq,hu⟩:=List.mem_flatMap.1 hu;have ay:∃a c,q.va=.slice a q.acts.length c:=by
       obtain⟨a9,c9,e9,Z,N⟩:=hT;have h9:actK.At w q.va q.acts:=N q hq;exact h9.shape
      obtain⟨a9,c9,e9⟩:=ay;have al:u∈[Value.int .i64 q.i,.int .i64 q.s,.int .i64 q.q,q.va]:=hu;simp only[List.mem_cons,List.not_mem_nil,or_false]at al;rcases al with rfl|rfl|rfl|rfl
      ·rfl
      ·rfl
      ·rfl
      ·rw[e9];rfl
     have ak:(txnK.row d).length=d.length*4:=Kind.row_length d;have y1:=Yb.cell 1 _ rfl;clear HY HN D HL HR ah
     go_wp2_with (at_builtin;refine wpList_append_own_at _ rfl _ _ 40 rfl w.heap.size 82 i0 (.agg #[.int .i64 0,.int .i64 0,.int .i64 0,.slice none 0 0]) 4 48 Tryz.underlying40 hi az aA aB rfl (by decide) _ qs.length (txnK.row qs) rfl hO ⟨bb,bo,none⟩ d.length bk (txnK.row d) rfl ak X U ?c3 ?c4 ?c5 ?_)
     all_goals try(case c3=>have:=af.out;unfold maxLen;omega)
     all_goals try(case c4=>have:=af.out;omega)
     all_goals try(case c5=>exact hb.size)
     intro v' w5 V J aj z;have W:txnK.row (qs++d)=txnK.row qs++txnK.row d:=by simp[Kind.row]
     rw[←W,←List.length_append]at V;have ap:Below w.heap.size w w5:=hb.grown J hb.size (fun j hj=>(hO.lt j hj).1);clear aj z J W hO X U ak y1 Yb aa hb
     go_wp2
     go_roundw
     case rel=>exact⟨k+1,_,by omega,by go_num,E,C,V,an,ap⟩
     case measure=>simp[intOf];omega
  ·have aw:k=ps.length:=by omega
   subst aw;have hE:=HE.out;rw[List.take_of_length_le (by simp)]at hE;have hL:=HL.out;clear HE
   go_wp2
   go_ret;first|exact⟨_,qs,rfl,hE,by omega,hO,HR.out,hb⟩|exact⟨_,rfl,qs,hE,by omega,hO,HR.out,hb⟩
section
open Go.Maps
theorem q4c:laidOutB Tryz.prog=true:=by kernel_rfl
theorem q4d:(168:TypeId)<Tryz.prog.types.size:=of_decide_eq_true (by kernel_rfl)
theorem q2w:(match Tryz.prog.underlying 168 with|some (.array _ _)|some (.struct _)=>true|_=>false)=true:=by kernel_rfl
theorem lawNm:Keyed Tryz.prog 168:=Keyed.of_law (deep_law_laid q4c (m:=2) (by omega) q4d (by kernel_rfl) q2w)
theorem q4e:Tryz.prog.keyType 168=true:=by kernel_rfl
theorem szP:∃m,Tryz.prog.types.size+1=m+2:=⟨_,rfl⟩
theorem q4f(i s q:Int)(hi:(Lit.int .i64 i).wf=true)(hs:(Lit.int .i64 s).wf=true)(hq:(Lit.int .i64 q).wf=true):∃l,keyOf Tryz.prog 168 (.agg #[.int .i64 i,.int .i64 s,.int .i64 q])=some l:=by
 obtain⟨m,hm⟩:=szP;have hc:Tryz.prog.cellsOf 168=3:=by kernel_rfl
 have hc1:Tryz.prog.cellsOf 2=1:=by kernel_rfl
 have hf:(Value.agg #[.int .i64 i,.int .i64 s,.int .i64 q]).formed Tryz.prog 168=true:=by
  simp[Value.formed,Tryz.underlying168,hc]
 unfold keyOf;rw[Tryz.underlying168];simp only[q4e,hf,Bool.and_self,if_true,hm];simp[Program.keyLits,Tryz.underlying168,Tryz.underlying2,hc,hc1,Value.cells,hi,hs,hq]
abbrev Nm:=Int × Int × Int
def nmV(x:Nm):Value:=.agg #[.int .i64 x.1,.int .i64 x.2.1,.int .i64 x.2.2]
def nmW(x:Nm):Prop:=(Lit.int .i64 x.1).wf=true∧(Lit.int .i64 x.2.1).wf=true∧(Lit.int .i64 x.2.2).wf=true
noncomputable def kyL (x:Nm):Lit:=(keyOf Tryz.prog 168 (nmV x)).getD (.bool false)
theorem z3t{x:Nm}(h:nmW x):keyOf Tryz.prog 168 (nmV x)=some (kyL x):=by
 obtain⟨l,hl⟩:=q4f x.1 x.2.1 x.2.2 h.1 h.2.1 h.2.2;have e:keyOf Tryz.prog 168 (nmV x)=some l:=hl;unfold kyL;rw[e];rfl
theorem q3o{x y:Nm}(hx:nmW x)(hy:nmW y)(h:kyL x=kyL y):x=y:=by
 have e1:=z3t hx;have e2:=z3t hy;rw[←h]at e2;have e:=lawNm.inj e1 e2;obtain⟨a,b,c⟩:=x;obtain⟨a',b',c'⟩:=y;simp[nmV]at e;obtain⟨rfl,rfl,rfl⟩:=e;rfl
def Cnt{H:Type}(D:DataW H)(ns:List Nm):Prop:=IsMap D∧∀x,nmW x→D.atKey (kyL x) (.lit (.int .i64 0))=.lit (.int .i64 (ns.count x))
theorem Cnt.none{H:Type}:Cnt (H:=H) (.map []) []:=⟨⟨[],rfl⟩,fun x _=>rfl⟩
theorem Cnt.put{H:Type}{D:DataW H}{ns:List Nm}(h:Cnt D ns){x:Nm}(hx:nmW x):Cnt (D.put (kyL x) (.lit (.int .i64 ((ns.count x:Int)+1)))) (ns++[x]):=by
 refine⟨h.1.put _ _,fun y hy=>?_⟩;by_cases e:y=x
 ·subst e;rw[atKey_put_same h.1 (lawNm.key (z3t hx))];simp[List.count_append]
 ·rw[atKey_put_other (fun e1=>e (q3o hy hx e1)),h.2 y hy];have:[x].count y=0:=List.count_eq_zero.2 (by simpa using e);simp[List.count_append,this]
def nmA(t:TxnD):Nm:=(t.id,0,0)
def nmB(t:TxnD):Nm:=(0,t.session,t.seq)
def nms(acc:List TxnD):List Nm:=acc.flatMap (fun t=>[nmA t,nmB t])
theorem q14(acc:List TxnD)(t:TxnD):nms (acc++[t])=nms acc++[nmA t]++[nmB t]:=by
 simp[nms]
theorem q0N(acc:List TxnD):(nms acc).length=2*acc.length:=by
 induction acc with
 |nil=>rfl
 |cons a r ih=>
  have:nms (a::r)=nmA a::nmB a::nms r:=rfl;rw[this];simp only[List.length_cons,ih];omega
theorem z8a{acc:List TxnD}{t:TxnD}(ha:∀x∈acc,1≤x.id)(ht:1≤t.id):knw acc t=true↔0<(nms acc).count (nmA t)∨0<(nms acc).count (nmB t):=by
 rw[List.count_pos_iff,List.count_pos_iff];unfold knw nms stF;rw[List.any_eq_true];constructor
 ·rintro⟨x,hx,h⟩;simp only[Bool.or_eq_true,Bool.and_eq_true,beq_iff_eq]at h;rcases h with h|⟨h1,h2⟩
  ·exact Or.inl (List.mem_flatMap.2 ⟨x,hx,by simp[nmA,h]⟩)
  ·exact Or.inr (List.mem_flatMap.2 ⟨x,hx,by simp[nmB,h1,h2]⟩)
 ·rintro(h|h)
  ·obtain⟨x,hx,h⟩:=List.mem_flatMap.1 h;have hx1:=ha x hx;simp only[nmA,nmB,List.mem_cons,Prod.mk.injEq,List.not_mem_nil,or_false]at h;rcases h with h|h
   ·exact⟨x,hx,by simp[h.1]⟩
   ·omega
  ·obtain⟨x,hx,h⟩:=List.mem_flatMap.1 h;have hx1:=ha x hx;simp only[nmA,nmB,List.mem_cons,Prod.mk.injEq,List.not_mem_nil,or_false]at h;rcases h with h|h
   ·omega
   ·exact⟨x,hx,by simp[h.2.1,h.2.2]⟩
end
section
open Go.Maps Go.WideShapes Go.MapKept Go.ChangeMaps Go.ChangeShapes Go.WideElems
theorem q0O{H:Type}{P:Program}{w:World}{t k e:TypeId}{R:Value→Option (DataW H × List MemPlace)}{b n:Nat}{D:DataW H}(h:w.ownsMap P k R b n D)(L:Go.WideMaps.KeyLaw P k)
  (ht:P.underlying t=some (.map k e)) {z:Value} (hz:∀u:World,(zeroValue e).run P u=.ok z u) {zd:DataW H} {zp:List MemPlace} (ai:R z=some (zd,zp)) (hn:n<maxLen)
  {key:Value} {kl:Lit} (x:keyOf P k key=some kl):
  ∃ (v0:Value) (st:Nat) (w1:World) (D1:DataW H),(Instr.mapEntry t (.map (some b)) key).run P w=.ok (.tuple #[v0,goInt st]) w1∧w.mapTurned w1 b∧
   w1.ownsMap P k R b (n+1) D1∧D1.atKey kl zd=D.atKey kl zd∧
   ∀ (w2:World) (J:Value) (d:DataW H) (ps:List MemPlace),w2.heap[b]?=w1.heap[b]?→R J=some (d,ps)→
    ∃w3,(Instr.entryStore t (.map (some b)) (goInt st) J).run P w2=.ok () w3∧w3.ownsMap P k R b (n+1) (D.put kl d)∧w2.mapTurned w3 b:=by
 have K:Keyed P k:=Keyed.of_law L;have h0:=h;obtain⟨es,c,hb,F,hs,hD⟩:=h;obtain⟨v0,st,I,A,hr,hv,ag⟩:=entry_then_store L ht hz hb F x;have T:(setBlock w b (.map I A)).heap[b]?=some (.map I A):=heap_setBlock_same hb _;have V:∃D1,(setBlock w b (.map I A)).ownsMap P k R b (n+1) D1∧D1.atKey kl zd=D.atKey kl zd:=by
  rcases K.find w x es.toList F.keys with⟨h1,h2⟩|⟨j,e0,h1,h2,h3⟩
  ·obtain⟨w',hrun,E,_⟩:=h0.store K ht hn x ai;have e1:(Instr.mapEntry t (.map (some b)) key).run P w=.ok (.tuple #[z,goInt c]) (setBlock w b (.map (es.push ⟨key,z,c⟩) (c+1))):=by
    simp[Instr.mapEntry,run_underlying ht,MapKept.run_getObj_map hb,K.check w false x,h1,hz,MapKept.run_setObj_map _ hb,Result.andThen,setBlock]
   have e2:(Instr.mapUpdate t (.map (some b)) key z).run P w=.ok () (setBlock w b (.map (es.push ⟨key,z,c⟩) (c+1))):=by
    simp[Instr.mapUpdate,run_underlying ht,MapKept.run_getObj_map hb,K.check w false x,h1,MapKept.run_setObj_map _ hb,Result.andThen,setBlock]
   rw[e1]at hr;rw[e2]at hrun;simp only[Result.ok.injEq,true_and]at hrun hr;rw[←hr.2,hrun];refine⟨_,E,?_⟩;rw[atKey_put_same h0.isMap (K.key x)];have ah:(zeroValue e).run P w=.ok z w:=hz w;rcases fit_look false K ht ah hb F x with⟨_,_,Y⟩|⟨e0,y,ab,aa,_⟩
   ·rw[hD,Y zd]
   ·exact absurd aa (h2 e0 ab)
  ·have hj:es[j]?=some e0:=by simpa using h2
   have af:es.modify j (fun e=>{e with key:=key})=es:=by
    apply Array.ext';rw[Array.toList_modify,modify_eq_set _ _ _ _ h2];have:({e0 with key:=key}:MapEntry)=e0:=by rw[←h3]
    rw[this];exact set_self _ _ _ h2
   have e1:(Instr.mapEntry t (.map (some b)) key).run P w=.ok (.tuple #[e0.val,goInt e0.born]) (setBlock w b (.map es c)):=by
    simp[Instr.mapEntry,run_underlying ht,MapKept.run_getObj_map hb,K.check w false x,h1,hj,h3,L.stays w x,af,MapKept.run_setObj_map _ hb,Result.andThen,setBlock]
   rw[e1]at hr;simp only[Result.ok.injEq]at hr;rw[←hr.2];exact⟨D,⟨es,c,heap_setBlock_same hb _,F,by omega,hD⟩,rfl⟩
 obtain⟨D1,O,U⟩:=V;refine⟨v0,st,_,D1,hr,⟨es,c,I,A,hb,rfl⟩,O,U,fun w2 J d ps h2 W=>?_⟩;have N:=h2.trans T;obtain⟨M,C,ad,ae⟩:=ag w2 J N;obtain⟨w',hrun,E,_⟩:=h0.store K ht hn x W;rw[ae]at hrun;simp only[Result.ok.injEq,true_and]at hrun;refine⟨_,ad,?_,⟨I,A,M,C,N,rfl⟩⟩;rw[←hrun]at E;obtain⟨X,cx,Z,rest⟩:=E;have e3:(setBlock w b (.map M C)).heap[b]?=(setBlock w2 b (.map M C)).heap[b]?:=by
  rw[heap_setBlock_same hb,heap_setBlock_same N]
 exact⟨X,cx,e3▸Z,rest⟩
end
section
open Go.Maps
def Cts(w:World)(b:Nat)(ns:List Nm):Prop:=∃D:DataW Unit,w.ownsMap Tryz.prog 168 (plainElem Tryz.prog 2) b ns.length D∧Cnt D ns
theorem q4g:Go.WideMaps.KeyLaw Tryz.prog 168:=deep_law_laid q4c (m:=2) (by omega) q4d (by kernel_rfl) q2w
theorem q0P(u:World):(zeroValue 2).run Tryz.prog u=.ok (.int .i64 0) u:=by
 kernel_rfl
theorem Cts.made(w:World):Cts (w.alloc (.map #[] 0)) w.heap.size []:=⟨_,World.ownsMap_made w _ _ _,Cnt.none⟩
theorem Cts.lt{w:World}{b:Nat}{ns:List Nm}(h:Cts w b ns):b<w.heap.size:=by
 obtain⟨D,h,_⟩:=h;exact h.lt
theorem Cts.kept{w w':World}{b:Nat}{ns:List Nm}{row:Option Nat}(h:Cts w b ns)(hg:w.grownBy w' row)(hne:some b≠row):Cts w' b ns:=by
 obtain⟨D,h,hc⟩:=h;exact⟨D,h.kept hg hne,hc⟩
theorem Cts.look{w:World}{b:Nat}{ns:List Nm}(h:Cts w b ns){x:Nm}(hx:nmW x):(Instr.lookup 166 (.map (some b)) (nmV x) false).run Tryz.prog w=.ok (.int .i64 (ns.count x)) w:=by
 obtain⟨D,h,hc⟩:=h;obtain⟨c,hr,hat,_⟩:=h.lookup_int lawNm Tryz.underlying166 Tryz.underlying2 (q0P w) (z3t hx);rw[hc.2 x hx]at hat;simp only[DataW.lit.injEq,Lit.int.injEq,true_and]at hat;rw[hr,hat]
theorem Cts.inc{w:World}{b:Nat}{ns:List Nm}(h:Cts w b ns){x:Nm}(hx:nmW x)(hl:ns.length<1000):
  ∃ (v0:Value) (st:Nat) (w1 w3:World),(Instr.mapEntry 166 (.map (some b)) (nmV x)).run Tryz.prog w=.ok (.tuple #[v0,.int .i64 st]) w1∧
   (Instr.lookup 166 (.map (some b)) (nmV x) false).run Tryz.prog w1=.ok (.int .i64 (ns.count x)) w1∧
   (Instr.entryStore 166 (.map (some b)) (.int .i64 st) (.int .i64 ((ns.count x:Int)+1))).run Tryz.prog w1=.ok () w3∧w.mapTurned w1 b∧w.mapTurned w3 b∧Cts w3 b (ns++[x]):=by
 obtain⟨D,h,hc⟩:=h;have M:ns.count x≤ns.length:=List.count_le_length;have w0:(Lit.int .i64 0).wf=true:=by decide
 have wc:(Lit.int .i64 ((ns.count x:Int)+1)).wf=true:=WalkArith.wf_i64 (by omega);obtain⟨v0,st,w1,D1,hr,z,A,y,J⟩:=q0O h q4g Tryz.underlying166 q0P (plainElem_int Tryz.underlying2 w0) (by unfold maxLen;omega) (z3t hx);obtain⟨w3,E,C,L⟩:=J w1 _ _ _ rfl (plainElem_int Tryz.underlying2 wc);obtain⟨c,I,d,_⟩:=A.lookup_int lawNm Tryz.underlying166 Tryz.underlying2 (q0P w1) (z3t hx);rw[y,hc.2 x hx]at d;simp only[DataW.lit.injEq,Lit.int.injEq,true_and]at d;refine⟨v0,st,w1,w3,hr,by rw[I,d],E,z,z.trans L,⟨_,?_,hc.put hx⟩⟩;rw[List.length_append];exact C
theorem Cts.below{w w':World}{b:Nat}{ns:List Nm}(h:Cts w b ns)(hb:Below w.heap.size w w'):Cts w' b ns:=by
 obtain⟨D,h,hc⟩:=h;have hlt:=h.lt;obtain⟨es,clock,h1,r⟩:=h;exact⟨D,⟨es,clock,(hb.block b hlt).trans h1,r⟩,hc⟩
theorem Cts.drew{w:World}{b:Nat}{ns:List Nm}(h:Cts w b ns):Cts w.drew b ns:=h
theorem z5B{B:Nat}{w w':World}(h:Below B w w'):Below B w w'.drew:=⟨h.os,h.tape,h.output,h.size,h.block⟩
theorem z8z{w:World}{base e size n:Nat}{v:Value}{xs:List Value}(h:w.ownsRow base e size v n xs):w.drew.ownsRow base e size v n xs:=h
theorem z8A{w:World}{b:Nat}{t:TypeId}{cs:Array Value}(h:Blk w b t cs):Blk w.drew b t cs:=h
theorem q0Q{w w':World}{M e size n:Nat}{v:Value}{xs:List Value}(h:w.ownsRow (M+1) e size v n xs)(ht:w.mapTurned w' M):w'.ownsRow (M+1) e size v n xs:=by
 refine h.kept ht.grown ?_
 cases hv:v.ownBlock with
 |none=>exact Or.inl rfl
 |some k=>
  have:=(h.lt k hv).1;exact Or.inr (fun e=>by simp at e;omega)
theorem q0R{w w':World}{b M:Nat}{t:TypeId}{cs:Array Value}(h:Blk w b t cs)(ht:w.mapTurned w' M):Blk w' b t cs:=by
 refine h.grown ht.grown (fun e=>?_);obtain⟨es,clock,es',clock',hb,_⟩:=ht;simp only[Option.some.injEq]at e;subst e;have h2:w.heap[b]?=some (.cells cs t):=h;rw[h2]at hb
 cases hb
theorem z7d{B M:Nat}{w0 w w':World}(h:Below B w0 w)(ht:w.mapTurned w' M)(hM:B≤M):Below B w0 w':=by
 have hg:=ht.grown;obtain⟨es,clock,es',clock',hb,rfl⟩:=ht;have hl:M<w.heap.size:=(Array.getElem?_eq_some_iff.1 hb).1;refine⟨hg.os.trans h.os,hg.tape.trans h.tape,hg.output.trans h.output,Nat.le_trans h.size hg.size,fun k hk=>(hg.block k (by omega) (fun e=>?_)).trans (h.block k hk)⟩;simp only[Option.some.injEq]at e;omega
theorem q4h{w:World}{base base' e size n:Nat}{v:Value}{xs:List Value}(h:w.ownsRow base e size v n xs)(hb:base'≤base):w.ownsRow base' e size v n xs:=by
 refine⟨h.1,?_⟩;rcases h.2 with h2|⟨g,cap,cur,hv,hg,hh,r⟩
 ·exact Or.inl h2
 ·exact Or.inr ⟨g,cap,cur,hv,by omega,hh,r⟩
theorem nmX0(a b c d e f:Int)(w:World):(Instr.index 169 (.agg #[.int .i64 a,.int .i64 b,.int .i64 c,.int .i64 d,.int .i64 e,.int .i64 f]) (.int .i64 0)).run Tryz.prog w=.ok (.agg #[.int .i64 a,.int .i64 b,.int .i64 c]) w:=by kernel_rfl
theorem nmX1(a b c d e f:Int)(w:World):(Instr.index 169 (.agg #[.int .i64 a,.int .i64 b,.int .i64 c,.int .i64 d,.int .i64 e,.int .i64 f]) (.int .i64 1)).run Tryz.prog w=.ok (.agg #[.int .i64 d,.int .i64 e,.int .i64 f]) w:=by kernel_rfl
theorem z4H{P:Program}{a:Act}{w:World}{Q:Exit→Act→World→Prop}{c X:Code}(l:Nat)(J:Act→World→Prop)(μ:Act→World→Nat)(hf:findLabel c l=some (Code.skip.seq X))
  (first:(∀a w,J a w→X.wp P (Exit.jump l J Q) a w)→c.wp P (Exit.jump l J Q) a w)
  (pass:∀a w,J a w→X.wp P (Exit.jump l (fun a' w'=>J a' w'∧μ a' w'<μ a w) Q) a w):(Code.scope c).wp P Q a w:=by
 refine wp_scope_jumps l J μ hf (first fun a w h=>?_) (fun a w h=>wp_seq_k fun K hK=>wp_skip (hK _ _ (pass a w h)));refine wp_mono (pass a w h) (fun e a w he=>?_)
 cases e with
 |goto l'=>exact⟨he.1,he.2.1⟩
 |normal=>exact he
 |exit id=>exact he
 |ret=>exact he
 |panic ch=>exact he
 |outgrown=>exact he
theorem z9t{P:Program}{a0:Act}{w0:World}{Q:Exit→Act→World→Prop}{r1 r2 rest:Code}{l:Nat}{J:Act→World→Prop}(hrest:∀a w,J a w→rest.wp P Q a w)(h:∀R:Code,(∀a w,J a w→R.wp P Q a w)→(r1.seq (r2.seq R)).wp P Q a0 w0):(r1.seq (r2.seq ((Code.label l).seq rest))).wp P Q a0 w0:=
 h _ (fun a w hJ=>wp_seq_k fun K hK=>wp_label (hK _ _ (hrest a w hJ)))
def OeW(w:World)(ps:List TxnQ)(v v4:Value)(wr:World):Prop:=∃ (k:Nat) (rs qs:List TxnQ),k≤ps.length∧Hid (rs=ps.drop k)∧txnK.At w v rs∧z51 v∧Hid (qs.map TxnQ.e=onc [] ((ps.take k).map TxnQ.e))∧wr.ownsRow (w.heap.size+1) 82 4 v4 qs.length (txnK.row qs)∧Hid (∀q∈qs,q∈ps)∧Cts wr w.heap.size (nms (qs.map TxnQ.e))∧Below w.heap.size w wr
def OeJ(w:World)(ps:List TxnQ)(a':Act)(w':World):Prop:=∃ (v v4 u5 u6 u7 u8 u9 u10 u11 u12 u13 u14 u15 u16 u17 u18 u19 u20 u21 u22 u23 u24 u25 u26 u27 u28 u29 u30 u31 u32 u33 u34 u35 u36 u37 u38 u39 u40 u41 u42 u43 u44 u45 u46 u47 u48 u49 u50 u51 u52 u53 u54 u55 u56 u57 u58:Value),a'={tmps:=#[v,undef,.slice none 0 0,.map (some w.heap.size),v4,u5,u6,u7,u8,u9,u10,u11,u12,u13,u14,u15,u16,u17,u18,u19,u20,u21,u22,u23,u24,u25,u26,u27,u28,u29,u30,u31,u32,u33,u34,u35,u36,u37,u38,u39,u40,u41,u42,u43,u44,u45,u46,u47,u48,u49,u50,u51,u52,u53,u54,u55,u56,u57,u58],defers:=[]}∧OeW w ps v v4 w'
def OeM(a':Act)(_:World):Nat:=match a'.tmps.getD 0 undef with| .slice _ n _=>n|_=>0
theorem z7e(v:Value)(ps:List TxnQ)(w:World)(h:txnK.At w v ps)(aq:z51 v)(hl:ps.length≤16)(hW:∀p∈ps,1≤p.i∧nmW (nmA (TxnQ.e p))∧nmW (nmB (TxnQ.e p))):
  Calls Tryz.prog 69 #[v] w fun e w'=>∃ (v':Value) (qs:List TxnQ),e=.returned v'∧qs.map TxnQ.e=onc [] (ps.map TxnQ.e)∧qs.length≤16∧w'.ownsRow w.heap.size 82 4 v' qs.length (txnK.row qs)∧(∀q∈qs,txnK.rd w q)∧Below w.heap.size w w':=by
 obtain⟨i0,a6,bg,bh,bi⟩:=info_parts z09;have bc:=@run_makeMap Tryz.prog;go_enter Tryz.func69,Tryz.ntmps69
 go_wp2
 refine z4H 0 (OeJ w ps) OeM rfl ?_ ?_
 ·intro ay;obtain⟨a,cap,rfl⟩:=h.shape;have aw:=Cts.made w;have a1:Below w.heap.size w (w.alloc (.map #[] 0)):=by go_grown
  have be:(w.alloc (.map #[] 0)).ownsRow (w.heap.size+1) 82 4 (.slice none 0 0) ([]:List TxnQ).length (txnK.row []):=World.ownsRow_nil _ _ _ _;refine z9t ay fun R hR=>?_
  go_wp2
  refine hR _ _ ?_;refine⟨_,_,_,_,_,_,_,_,_,_,_,_,_,_,_,_,_,_,_,_,_,_,_,_,_,_,_,_,_,_,_,_,_,_,_,_,_,_,_,_,_,_,_,_,_,_,_,_,_,_,_,_,_,_,_,_,rfl,0,ps,[],Nat.zero_le _,(rfl:_=_),h,aq,(rfl:_=_),be,fun q hq=>by simp at hq,aw,a1⟩
 ·clear bc;rintro a' w' ⟨v,v4,u5,u6,u7,u8,u9,bz,bA,bB,bC,bD,bE,bF,bG,bH,bI,bJ,bK,bL,bM,bN,bO,bP,bQ,bR,bS,bT,bU,bV,bW,bX,bY,bZ,b0,b1,b2,b3,b4,b5,b6,b7,b8,b9,ca,cb,cc,cd,ce,cf,cg,ch,ci,cj,ck,cl,rfl,k0,rs,bl,bt,aj,hA,aq,aB,ao,aD,aI,aY⟩;obtain⟨a,cap,rfl⟩:=hA.shape;have aa:Hid (rs.length=ps.length-k0):=show _=_ by rw[aj.out,List.length_drop]
  obtain⟨aM,bn⟩:rs.length≤cap∧cap≤maxLen:=aq;obtain⟨bw,bx,rfl⟩:=z0g ao
  go_wp2
  go_loopw[0,4,15] (fun v0 v j wr=>∃ (i:Nat) (qs:List TxnQ),i≤rs.length∧v0=.slice a rs.length cap∧j=.int .i64 i∧Hid (qs.map TxnQ.e=onc [] ((ps.take (k0+i)).map TxnQ.e))∧wr.ownsRow (w.heap.size+1) 82 4 v qs.length (txnK.row qs)∧Hid (∀q∈qs,q∈ps)∧Cts wr w.heap.size (nms (qs.map TxnQ.e))∧Below w.heap.size w wr) (fun _ _ j _=>rs.length-(intOf j).toNat)
  case atStart=>exact⟨0,bl,Nat.zero_le _,rfl,rfl,aB,ao,aD,aI,aY⟩
  case round=>
   clear aB ao aD aI;obtain⟨i,qs,hi,rfl,rfl,HE,hO,HM,hC,hb⟩:=hrel;obtain⟨sa,sc,rfl⟩:=z0g hO;by_cases bb:i<rs.length
   ·have hk:k0+i<ps.length:=by have:=aa.out;omega
    obtain⟨b,Z,rfl,a2,hc,aS⟩:=hA.cell (by decide) i bb;have aR:rs[i]=ps[k0+i]:=by
     obtain rfl:rs=ps.drop k0:=aj.out;simp
    rw[aR]at hc aS;obtain⟨h1,az,aA⟩:=hW _ (List.getElem_mem hk);have HY:Hid (onc [] ((ps.take (k0+i+1)).map TxnQ.e)=if knw (qs.map TxnQ.e) (TxnQ.e ps[k0+i])then qs.map TxnQ.e else qs.map TxnQ.e++[TxnQ.e ps[k0+i]]):=show _=_ by
     rw[HE.out,List.take_succ_eq_append_getElem hk,List.map_append,z1y];rfl
    have L:∀j x,(txnK.cells ps[k0+i])[j]?=some x→w.cell? ⟨b,Z+i*4+j,none⟩=some x:=hc;have c0:=z7c (L 0 (.int .i64 ps[k0+i].i) rfl) hb;have c1:=z7c (L 1 (.int .i64 ps[k0+i].s) rfl) hb;have c2:=z7c (L 2 (.int .i64 ps[k0+i].q) rfl) hb;have c3:=z7c (L 3 ps[k0+i].va rfl) hb;rw[Nat.add_zero]at c0;have bm:b<wr.heap.size:=Nat.lt_of_lt_of_le a2 hb.size;have aP:ps[k0+i]∈ps:=List.getElem_mem hk;clear hc L aR;generalize ps[k0+i]=p at*;obtain⟨pi,d,pq,bj,c⟩:=p;have hT:actK.At w bj c:=aS;obtain⟨ba,bk,rfl⟩:=hT.shape;dsimp only at c0 c1 c2 c3 h1;obtain⟨A,E⟩:∃A,A=rs.drop (i+1):=⟨_,rfl⟩
    have aO:A.length=rs.length-(i+1):=by rw[E,List.length_drop]
    obtain⟨ra,rc,bv,aF,M⟩:∃ra rc,(∀u:World,(Instr.slice 40 (.slice (some ⟨b,Z,none⟩) rs.length cap) (some (.int .i64 ((i:Int)+1))) none none).run Tryz.prog u=.ok (.slice ra A.length rc) u)∧txnK.At w (.slice ra A.length rc) A∧z51 (.slice ra A.length rc):=by
     have hd:=hA.dropS (i+1) (by omega) aM (cap-(i+1));rw[←E]at hd;refine⟨_,_,fun u=>?_,hd,⟨by omega,by omega⟩⟩;rw[run_slice_l u 40 (some ⟨b,Z,none⟩) rs.length cap (by kernel_rfl) .i64 ((i:Int)+1) (by omega) (by omega),aO];rfl
    have ad:Hid (A=ps.drop (k0+(i+1))):=show _=_ by rw[E,aj.out,List.drop_drop]
    have ab:Hid (A.length<rs.length):=show _<_ by omega
    have HJ:Hid (knw (qs.map TxnQ.e) (TxnQ.e (⟨pi,d,pq,.slice ba c.length bk,c⟩:TxnQ))=true→qs.map TxnQ.e=onc [] ((ps.take (k0+(i+1))).map TxnQ.e)):=fun ar=>by
     have h9:=HY.out;rw[ar]at h9;rw[←Nat.add_assoc,h9];rfl
    clear E aO;obtain⟨BX,aH⟩:∃BX,BX=wr.heap.size:=⟨_,rfl⟩
    have aU:Hid ((nms (qs.map TxnQ.e)).length≤32):=show _≤_ by
     rw[q0N,HE.out];have:=z56 ((ps.take (k0+i)).map TxnQ.e) [];simp only[List.length_map,List.length_take,List.length_nil]at this;omega
    have X:Below wr.heap.size wr ((wr.alloc (.cells #[.int .i64 pi,.int .i64 d,.int .i64 pq,.slice ba c.length bk] 82)).alloc (.cells #[.int .i64 pi,.int .i64 0,.int .i64 0,.int .i64 0,.int .i64 d,.int .i64 pq] 169)):=by go_grown
    have X1:Blk ((wr.alloc (.cells #[.int .i64 pi,.int .i64 d,.int .i64 pq,.slice ba c.length bk] 82)).alloc (.cells #[.int .i64 pi,.int .i64 0,.int .i64 0,.int .i64 0,.int .i64 d,.int .i64 pq] 169)) wr.heap.size 82 #[.int .i64 pi,.int .i64 d,.int .i64 pq,.slice ba c.length bk]:=(Blk.new wr 82 #[.int .i64 pi,.int .i64 d,.int .i64 pq,.slice ba c.length bk]).below (by go_grown);have X2:Blk ((wr.alloc (.cells #[.int .i64 pi,.int .i64 d,.int .i64 pq,.slice ba c.length bk] 82)).alloc (.cells #[.int .i64 pi,.int .i64 0,.int .i64 0,.int .i64 0,.int .i64 d,.int .i64 pq] 169)) (wr.heap.size+1) 169 #[.int .i64 pi,.int .i64 0,.int .i64 0,.int .i64 0,.int .i64 d,.int .i64 pq]:=by
     have:=Blk.new (wr.alloc (.cells #[.int .i64 pi,.int .i64 d,.int .i64 pq,.slice ba c.length bk] 82)) 169 #[.int .i64 pi,.int .i64 0,.int .i64 0,.int .i64 0,.int .i64 d,.int .i64 pq];simpa using this
    have V:=z0d hO X;have O:Cts ((wr.alloc (.cells #[.int .i64 pi,.int .i64 d,.int .i64 pq,.slice ba c.length bk] 82)).alloc (.cells #[.int .i64 pi,.int .i64 0,.int .i64 0,.int .i64 0,.int .i64 d,.int .i64 pq] 169)) w.heap.size (nms (qs.map TxnQ.e)):=hC.below X;have z:=hb.trans (X.mono hb.size)
    go_wp2
    clear X c0 c1 c2 c3 hb hO hC;rw[←aH]at X1;generalize (wr.alloc (.cells #[.int .i64 pi,.int .i64 d,.int .i64 pq,.slice ba c.length bk] 82)).alloc (.cells #[.int .i64 pi,.int .i64 0,.int .i64 0,.int .i64 0,.int .i64 d,.int .i64 pq] 169)=Y at*;go_loopw[0,30] (fun v0 j wy=>∃m:Nat,m≤2∧v0=.slice (some ⟨b,Z,none⟩) rs.length cap∧j=.int .i64 m∧Hid (1≤m→(nms (qs.map TxnQ.e)).count (pi,0,0)=0)∧Hid (2≤m→(nms (qs.map TxnQ.e)).count (0,d,pq)=0)∧Below Y.heap.size Y wy) (fun _ j _=>2-(intOf j).toNat)
    case atStart=>exact⟨0,Nat.zero_le _,rfl,rfl,fun h=>by omega,fun h=>by omega,Below.refl _ _⟩
    case round=>
     obtain⟨m,hm,rfl,rfl,HA,HB,y⟩:=hrel;have T:=O.below y;have au:=fun o=>(T.kept (row:=none) (World.grownBy_alloc wr o none) (by simp)).look az
     have av:=fun o=>(T.kept (row:=none) (World.grownBy_alloc wr o none) (by simp)).look aA
     simp only[nmV,nmA,nmB,TxnQ.e]at au av;have br:=nmX0 pi 0 0 0 d pq;have bs:=nmX1 pi 0 0 0 d pq;replace X2:=X2.below y;obtain rfl|rfl|rfl:m=0∨m=1∨m=2:=by omega
     ·by_cases hp:0<(nms (qs.map TxnQ.e)).count (pi,0,0)
      ·have ah:Hid (knw (qs.map TxnQ.e) (TxnQ.e (⟨pi,d,pq,.slice ba c.length bk,c⟩:TxnQ))=true):=(z8a (acc:=qs.map TxnQ.e) (t:=TxnQ.e (⟨pi,d,pq,.slice ba c.length bk,c⟩:TxnQ)) (fun x hx=>by obtain⟨q,hq,rfl⟩:=List.mem_map.1 hx;exact(hW q (HM.out q hq)).1) h1).2 (Or.inl hp)
       go_wp2
       refine wp_goto ?_;refine⟨rfl,⟨_,_,_,_,_,_,_,_,_,_,_,_,_,_,_,_,_,_,_,_,_,_,_,_,_,_,_,_,_,_,_,_,_,_,_,_,_,_,_,_,_,_,_,_,_,_,_,_,_,_,_,_,_,_,_,_,rfl,k0+(i+1),A,qs,by omega,ad,aF,M,HJ.out ah.out,z0d (z0d V y) (by go_grown),HM,(O.below y).below (by go_grown),z.trans ((y.alloc y.size _).mono z.size)⟩,?_⟩;exact ab.out
      ·have hz:(nms (qs.map TxnQ.e)).count (pi,0,0)=0:=by omega
       rw[hz]at au
       go_wp2
       go_roundw
       case rel=>exact⟨1,by omega,rfl,by go_num,fun _=>hz,fun h=>by omega,y.alloc y.size _⟩
       case measure=>simp[intOf]
     ·have N:=HA.out (by omega);by_cases hp:0<(nms (qs.map TxnQ.e)).count (0,d,pq)
      ·have ah:Hid (knw (qs.map TxnQ.e) (TxnQ.e (⟨pi,d,pq,.slice ba c.length bk,c⟩:TxnQ))=true):=(z8a (acc:=qs.map TxnQ.e) (t:=TxnQ.e (⟨pi,d,pq,.slice ba c.length bk,c⟩:TxnQ)) (fun x hx=>by obtain⟨q,hq,rfl⟩:=List.mem_map.1 hx;exact(hW q (HM.out q hq)).1) h1).2 (Or.inr hp)
       go_wp2
       refine wp_goto ?_;refine⟨rfl,⟨_,_,_,_,_,_,_,_,_,_,_,_,_,_,_,_,_,_,_,_,_,_,_,_,_,_,_,_,_,_,_,_,_,_,_,_,_,_,_,_,_,_,_,_,_,_,_,_,_,_,_,_,_,_,_,_,rfl,k0+(i+1),A,qs,by omega,ad,aF,M,HJ.out ah.out,z0d (z0d V y) (by go_grown),HM,(O.below y).below (by go_grown),z.trans ((y.alloc y.size _).mono z.size)⟩,?_⟩;exact ab.out
      ·have hz:(nms (qs.map TxnQ.e)).count (0,d,pq)=0:=by omega
       rw[hz]at av
       go_wp2
       go_roundw
       case rel=>exact⟨2,by omega,rfl,by go_num,fun _=>N,fun _=>hz,y.alloc y.size _⟩
       case measure=>simp[intOf]
     ·have N:=HA.out (by omega);have aG:=HB.out (by omega);obtain⟨x0,x1,x2,x3,x4,x5⟩:=X2.cel6;replace X1:=X1.below y;have aL:=z0d V y;replace z:=z.trans (y.mono z.size)
      go_wp2
      clear x0 x1 x2 x3 x4 x5 X2 au av HA HB y O V;have a8:(nms (qs.map TxnQ.e)).length≤32:=aU.out;have aN:knw (qs.map TxnQ.e) (TxnQ.e (⟨pi,d,pq,.slice ba c.length bk,c⟩:TxnQ))=false:=by
       cases ar:knw (qs.map TxnQ.e) (TxnQ.e (⟨pi,d,pq,.slice ba c.length bk,c⟩:TxnQ))with
       |false=>rfl
       |true=>
        have h9:=(z8a (acc:=qs.map TxnQ.e) (t:=TxnQ.e (⟨pi,d,pq,.slice ba c.length bk,c⟩:TxnQ)) (fun x hx=>by obtain⟨q,hq,rfl⟩:=List.mem_map.1 hx;exact(hW q (HM.out q hq)).1) h1).1 ar;have bo:(nms (qs.map TxnQ.e)).count (nmA (TxnQ.e (⟨pi,d,pq,.slice ba c.length bk,c⟩:TxnQ)))=0:=N;have bp:(nms (qs.map TxnQ.e)).count (nmB (TxnQ.e (⟨pi,d,pq,.slice ba c.length bk,c⟩:TxnQ)))=0:=aG;omega
      have aT:Hid ((qs++[(⟨pi,d,pq,.slice ba c.length bk,c⟩:TxnQ)]).map TxnQ.e=onc [] ((ps.take (k0+(i+1))).map TxnQ.e)):=show _=_ by
       have h9:=HY.out;rw[aN]at h9;rw[←Nat.add_assoc,h9];simp
      have aV:Hid (∀q∈qs++[(⟨pi,d,pq,.slice ba c.length bk,c⟩:TxnQ)],q∈ps):=fun q hq=>by
       rcases List.mem_append.1 hq with hq|hq
       ·exact HM.out q hq
       ·rw[List.mem_singleton.1 hq];exact aP
      have aC:Hid (qs.length≤16):=show _≤_ by
       have h9:=a8;rw[q0N]at h9;simp at h9;omega
      have aW:Hid (nms ((qs++[(⟨pi,d,pq,.slice ba c.length bk,c⟩:TxnQ)]).map TxnQ.e)=nms (qs.map TxnQ.e)++[(pi,0,0),(0,d,pq)]):=show _=_ by
       rw[List.map_append];exact(q14 _ _).trans (by simp[nmA,nmB,TxnQ.e])
      clear aN HY;generalize bu:nms (qs.map TxnQ.e)=ns at*;go_loopw[43] (fun j wz=>∃m:Nat,m≤2∧j=.int .i64 m∧Cts wz w.heap.size (ns++[(pi,0,0),(0,d,pq)].take m)∧wz.ownsRow (w.heap.size+1) 82 4 (.slice sa qs.length sc) qs.length (txnK.row qs)∧Blk wz BX 82 #[.int .i64 pi,.int .i64 d,.int .i64 pq,.slice ba c.length bk]∧Below w.heap.size w wz) (fun j _=>2-(intOf j).toNat)
      case atStart=>exact⟨0,Nat.zero_le _,rfl,by simpa using T,aL,X1,z⟩
      case round=>
       clear T aL X1 z;obtain⟨m,hm,rfl,J,W,X1,z⟩:=hrel;obtain rfl|rfl|rfl:m=0∨m=1∨m=2:=by omega
       ·simp only[List.take_zero,List.append_nil]at J;have I:Cts (wr.alloc (.cells #[.int .i64 pi,.int .i64 0,.int .i64 0] 168)).drew w.heap.size ns:=(J.kept (row:=none) (World.grownBy_alloc wr (.cells #[.int .i64 pi,.int .i64 0,.int .i64 0] 168) none) (by simp)).drew;have e0:=I.look az;obtain⟨v0,st,w1,w3,e1,e2,e3,t1,t3,al⟩:=I.inc az (by omega);have z1:((0:Nat):Int)+1=1:=rfl;simp only[nmV,nmA,TxnQ.e,N,z1]at e0 e1 e2 e3;have ai:Hid (w3.ownsRow (w.heap.size+1) 82 4 (.slice sa qs.length sc) qs.length (txnK.row qs)):=q0Q (z8z (z0d W (by go_grown))) t3;have ak:Hid (Blk w3 BX 82 #[.int .i64 pi,.int .i64 d,.int .i64 pq,.slice ba c.length bk]):=q0R (z8A (X1.below (by go_grown))) t3;have ag:Hid (Below w.heap.size w w3):=z7d (z5B (z.alloc z.size _)) t3 (Nat.le_refl _);clear t1 t3
        go_wp2
        go_region
        go_wp2
        go_roundw
        case rel=>exact⟨1,by omega,by go_num,al,ai.out,ak.out,ag.out⟩
        case measure=>simp[intOf]
       ·have bd:(ns++[(pi,0,0)]).count (0,d,pq)=0:=by
         rw[List.count_append,aG];have:[(pi,(0:Int),(0:Int))].count (0,d,pq)=0:=List.count_eq_zero.2 (by simp;omega);omega
        have aJ:Cts wr w.heap.size (ns++[(pi,0,0)]):=J;have I:Cts (wr.alloc (.cells #[.int .i64 0,.int .i64 d,.int .i64 pq] 168)).drew w.heap.size (ns++[(pi,0,0)]):=(aJ.kept (row:=none) (World.grownBy_alloc wr (.cells #[.int .i64 0,.int .i64 d,.int .i64 pq] 168) none) (by simp)).drew;have e0:=I.look aA;obtain⟨v0,st,w1,w3,e1,e2,e3,t1,t3,al⟩:=I.inc aA (by simp;omega);have z1:((0:Nat):Int)+1=1:=rfl;have am:Cts w3 w.heap.size (ns++[(pi,0,0),(0,d,pq)]):=by
         have e9:ns++[(pi,0,0)]++[(0,d,pq)]=ns++[(pi,0,0),(0,d,pq)]:=by simp
         rw[←e9];exact al
        simp only[nmV,nmB,TxnQ.e,bd,z1]at e0 e1 e2 e3;have ai:Hid (w3.ownsRow (w.heap.size+1) 82 4 (.slice sa qs.length sc) qs.length (txnK.row qs)):=q0Q (z8z (z0d W (by go_grown))) t3;have ak:Hid (Blk w3 BX 82 #[.int .i64 pi,.int .i64 d,.int .i64 pq,.slice ba c.length bk]):=q0R (z8A (X1.below (by go_grown))) t3;have ag:Hid (Below w.heap.size w w3):=z7d (z5B (z.alloc z.size _)) t3 (Nat.le_refl _);clear t1 t3
        go_wp2
        go_region
        go_wp2
        go_roundw
        case rel=>exact⟨2,by omega,by go_num,am,ai.out,ak.out,ag.out⟩
        case measure=>simp[intOf]
       ·rw[aH]at X1;obtain⟨y0,y1,y2,y3⟩:=X1.cel4;have D:Below wr.heap.size wr (wr.alloc (.cells #[.int .i64 pi,.int .i64 d,.int .i64 pq,.slice ba c.length bk] 82)):=by go_grown
        have U:=z0d W D;have an:Cts (wr.alloc (.cells #[.int .i64 pi,.int .i64 d,.int .i64 pq,.slice ba c.length bk] 82)) w.heap.size (ns++[(pi,0,0),(0,d,pq)]):=Cts.below (w:=wr) J D;have ap:=z.trans (D.mono z.size);have aE:Hid (qs.length≤16):=aC;clear W J z X1 D
        go_wp2_with (at_builtin;refine wpList_append_own_at _ rfl _ _ 40 rfl (w.heap.size+1) 82 i0 (.agg #[.int .i64 0,.int .i64 0,.int .i64 0,.slice none 0 0]) 4 48 Tryz.underlying40 a6 bg bh bi rfl (by decide) _ qs.length (txnK.row qs) rfl U ⟨wr.heap.size,0,none⟩ 1 1 [.int .i64 pi,.int .i64 d,.int .i64 pq,.slice ba c.length bk] rfl rfl ?c1 ?c2 ?c3 ?c4 ?c5 ?_)
        all_goals try(case c1=>intro j u hj;match j,hj with|0,hj=>simp at hj;subst hj;simp[Addr.add]|1,hj=>simp at hj;subst hj;simp[Addr.add]|2,hj=>simp at hj;subst hj;simp[Addr.add]|3,hj=>simp at hj;subst hj;simp[Addr.add])
        all_goals try(case c2=>intro u hu;simp at hu;rcases hu with rfl|rfl|rfl|rfl<;>rfl)
        all_goals try(case c3=>have:=aE.out;unfold maxLen;omega)
        all_goals try(case c4=>have:=aE.out;omega)
        all_goals try(case c5=>have:=an.lt;omega)
        intro v' w5 ae C aQ aX;have af:txnK.row (qs++[(⟨pi,d,pq,.slice ba c.length bk,c⟩:TxnQ)])=txnK.row qs++[.int .i64 pi,.int .i64 d,.int .i64 pq,.slice ba c.length bk]:=by simp[Kind.row];rfl
        have ax:w5.ownsRow (w.heap.size+1) 82 4 v' (qs++[(⟨pi,d,pq,.slice ba c.length bk,c⟩:TxnQ)]).length (txnK.row (qs++[(⟨pi,d,pq,.slice ba c.length bk,c⟩:TxnQ)])):=by rw[af,List.length_append];exact ae
        have aZ:Below w.heap.size w w5:=ap.grown C ap.size (fun j hj=>by have:=(U.lt j hj).1;omega);have am:Cts w5 w.heap.size (nms ((qs++[(⟨pi,d,pq,.slice ba c.length bk,c⟩:TxnQ)]).map TxnQ.e)):=by
         rw[aW.out];exact an.kept C (fun e=>by have:=(U.lt _ e.symm).1;omega)
        clear ae C aQ aX af U an ap
        go_wp2
        go_roundw
        case rel=>exact⟨i+1,qs++[(⟨pi,d,pq,.slice ba c.length bk,c⟩:TxnQ)],by omega,rfl,by go_num,aT,ax,aV,am,aZ⟩
        case measure=>simp[intOf];omega
   ·have a7:i=rs.length:=by omega
    subst a7;have hE:=HE.out;rw[List.take_of_length_le (by have:=aa.out;omega)]at hE;have hL:qs.length≤16:=by
     have e9:qs.length=(qs.map TxnQ.e).length:=by simp
     have:=z56 (ps.map TxnQ.e) [];rw[e9,hE];simp only[List.length_map,List.length_nil]at this;omega
    have hR:∀q∈qs,txnK.rd w q:=fun q hq=>by
     obtain⟨a9,c9,e9,bq,bf⟩:=h;exact bf q (HM.out q hq)
    have aK:=q4h hO (Nat.le_succ w.heap.size)
    go_wp2
    first|go_ret|(simp only[Exit.jump];go_ret)
    first|exact⟨_,qs,rfl,hE,hL,aK,hR,hb⟩|exact⟨_,rfl,qs,hE,hL,aK,hR,hb⟩
end
theorem z6j{w:World}{base e size n:Nat}{v:Value}{xs:List Value}(h:w.ownsRow base e size v n xs):z51 v:=by
 rcases h.2 with⟨rfl,_⟩|⟨g,c,cur,rfl,_,_,h1,h2,_⟩
 ·exact⟨Nat.le_refl _,by decide⟩
 ·exact⟨h1,h2⟩
theorem q4H{bs:List TxnD}(h:batF bs=0):∀t∈bs,t.F=0:=by
 unfold batF at h;split at h
 ·exact absurd h (by decide)
 ·split at h
  ·rename_i h1 h2
   exact q13 h2
  ·rename_i h1 h2
   exact absurd h h2
theorem q4I{x:InstE}(h:insF x=0):∀t∈x.batch,t.F=0:=by
 obtain⟨h0,_⟩:=z1K h;obtain⟨_,_,_,hb0,hb1⟩:=z1c h0
 cases hh:x.has with
 |false=>
  rw[hb0 hh];intro t ht;simp at ht
 |true=>exact q4H (hb1 hh)
theorem q4i{ds:List InstE}(h:∀x∈ds,insF x=0):∀t∈z3m ds,t.F=0:=by
 intro t ht;unfold z3m at ht;obtain⟨x,hx,ht⟩:=List.mem_flatMap.1 ht;split at ht
 ·exact q4I (h x hx) t ht
 ·simp at ht
theorem z2m(n:Int)(h1:-1000≤n)(h2:n≤1000):(Lit.int .i64 n).wf=true:=by
 have e1:IntKind.i64.min=-9223372036854775808:=by decide
 have e2:IntKind.i64.max=9223372036854775807:=by decide
 show(decide (IntKind.i64.min≤n) && decide (n≤IntKind.i64.max))=true;rw[e1,e2,Bool.and_eq_true,decide_eq_true_eq,decide_eq_true_eq];omega
theorem q4J{t:TxnD}(h:t.F=0):1≤t.id∧nmW (nmA t)∧nmW (nmB t):=by
 obtain⟨⟨h1,h2⟩,⟨h3,h4⟩,⟨h5,h6⟩,_⟩:=z2Q h;exact⟨h1,⟨z2m t.id (by omega) (by omega),z2m 0 (by decide) (by decide),z2m 0 (by decide) (by decide)⟩,⟨z2m 0 (by decide) (by decide),z2m t.session (by omega) (by omega),z2m t.seq (by omega) (by omega)⟩⟩
theorem q2x{qs:List TxnQ}(h:∀t∈qs.map TxnQ.e,t.F=0):nmL TxnQ.n qs≤4*qs.length:=by
 induction qs with
 |nil=>simp[nmL]
 |cons q r ih=>
  have h1:(TxnQ.e q).F=0:=h _ (by simp);have h2:=(z2Q h1).2.2.2.1.2;have h3:q.acts.length≤4:=h2;have:=ih (fun t ht=>h t (by simp only[List.map_cons,List.mem_cons];exact Or.inr ht));simp only[nmL,List.map_cons,List.sum_cons,List.length_cons,TxnQ.n]at this⊢;omega
theorem q0S{ds:List InstE}(h:∀x∈ds,insF x=0):(z3m ds).length≤4*ds.length:=by
 unfold z3m;induction ds with
 |nil=>simp
 |cons x r ih=>
  have h1:=h x (by simp);have:=ih (fun y hy=>h y (List.mem_cons_of_mem _ hy));simp only[List.flatMap_cons,List.length_append,List.length_cons];have h2:x.batch.length≤4:=by
   obtain⟨h0,_⟩:=z1K h1;obtain⟨_,_,_,hb0,hb1⟩:=z1c h0
   cases hh:x.has with
   |false=>rw[hb0 hh];simp
   |true=>
    have h3:=hb1 hh;unfold batF at h3;split at h3
    ·exact absurd h3 (by decide)
    ·omega
  split
  ·omega
  ·simp only[List.length_nil];omega
theorem q0T:(Tryz.prog.info? 94).map (·.size)=some 2:=by kernel_rfl
theorem q4j{ds:List InstE}(h:∀x∈ds,insF x=0)(m:Nat):∀t∈defL ds m,t.F=0:=by
 intro t ht;rcases z71 _ _ t ht with ht|ht
 ·simp at ht
 ·exact q4i (fun x hx=>h x (List.mem_of_mem_take hx)) t ht
theorem z1w(v:Value)(ps:List InstQ)(n:Int)(w:World)(hG:Rul w)(h:instK.At w v ps)(an:z51 v)(hl:(ps.length+nmL InstQ.n ps)≤1048576):
  Calls Tryz.prog 45 #[v,.int .i64 n] w fun e w'=>∃ (v':Value) (qs:List TxnQ),e=.returned (.agg #[.int .i64 (dfC (ps.map InstQ.e) n),v'])∧qs.map TxnQ.e=dfT (ps.map InstQ.e) n∧txnK.Own w' v' qs∧(txnK.fp v' qs).Nodup∧(∀k∈txnK.fp v' qs,w.heap.size≤k)∧Below w.heap.size w w':=by
 have hB:Below w.heap.size w (w.alloc (.cells #[.int .i64 0,.slice none 0 0] 94)):=by go_grown
 have Rb:=Blk.new w 94 #[.int .i64 0,.slice none 0 0];have ag:=z1a v ps _ (hG.below hB) (h.below hB) hl;have HO:Hid (ordF (ps.map InstQ.e)=0→ps.length≤4∧∀q∈ps,insF (InstQ.e q)=0):=fun h0=>by
  have:=((z2b _).1 h0).1;rw[List.length_map]at this;exact⟨this.2,fun q hq=>z2G h0 _ (List.mem_map.2 ⟨q,hq,rfl⟩)⟩
 have HV:Hid (ordF (ps.map InstQ.e)=0→diV (ps.map InstQ.e)=(decN (ps.map InstQ.e):Int)):=fun h0=>if_pos h0
 have hw:=z78 (ps.map InstQ.e) n;have d:Hid _:=hw;clear hw;have aw:decN (ps.map InstQ.e)≤ps.length:=by simpa using q0F (ps.map InstQ.e)
 obtain⟨a,cap,rfl⟩:=h.shape;obtain⟨ao,ap⟩:ps.length≤cap∧cap≤maxLen:=an;generalize dfC (ps.map InstQ.e) n=D at*;generalize dfT (ps.map InstQ.e) n=O at*;generalize ordF (ps.map InstQ.e)=C at*;generalize diV (ps.map InstQ.e)=V at*;generalize decN (ps.map InstQ.e)=M at*;go_enter Tryz.func45,Tryz.ntmps45
 go_wp2_with fail
 refine ag.mono ?_;rintro e w1 ⟨rfl,L⟩;replace hB:=hB.trans (L.mono hB.size);replace Rb:=Rb.below L;clear ag L;have T:Below w1.heap.size w1 (w1.alloc (.cells #[.int .i64 C,.int .i64 V] 113)):=by go_grown
 have Cb:=Blk.new w1 113 #[.int .i64 C,.int .i64 V];replace hB:=hB.trans (T.mono hB.size);have az:w.heap.size<w1.heap.size:=Rb.lt;replace Rb:=Rb.below T;clear T;by_cases hC:C=0
 ·have hv:=HV.out hC;obtain⟨h4,E⟩:=HO.out hC;have ah:∀p∈ps,insF (InstQ.e p)=0:=E;subst hC;subst hv;clear HV HO;have c1:=Cb.cell 1 _ rfl;have c0:=Cb.cell 0 _ rfl;have ai:=fun w=>z0E n 0 (M:Int) w
  go_wp2_with fail
  clear c0 c1;generalize w1.alloc (.cells #[.int .i64 0,.int .i64 M] 113)=X at*;refine(ai X).mono ?_;rintro e w2 ⟨rfl,aa⟩;replace aa:=aa.symm;subst aa;by_cases c:0≤n∧n≤(M:Int)
  ·have W:inW n 0 (M:Int)=true:=by unfold inW;rw[decide_eq_true c.1,decide_eq_true c.2];rfl
   obtain⟨m,rfl⟩:∃m:Nat,n=(m:Int):=⟨n.toNat,by omega⟩
   have hm:m≤ps.length:=by omega
   have E0:Hid (D=0∧O=defL (ps.map InstQ.e) m):=by
    rcases d.out with⟨h0,_⟩|⟨_,h0,_⟩|⟨_,_,h0,h1⟩
    ·exact absurd rfl h0
    ·exact absurd c h0
    ·exact⟨h0,by simpa using h1⟩
   clear d;rw[W];have hT:=h.takeK m hm;have aj:=z79 (.slice a m cap) (ps.take m) X (hG.below hB) (hT.below hB) (fun p hp=>E p (List.mem_of_mem_take hp)) (by rw[List.length_take];omega) (by have:=z5r InstQ.n ps m;rw[List.length_take];omega);have ax:(0:Int)≤(m:Int):=by omega
   have ay:(m:Int)≤(cap:Int):=by omega
   have aq:m≤cap:=by omega
   have ad:Hid (∀ t∈z3m ((ps.take m).map InstQ.e),t.F=0):=q4i (fun x hx=>by
    obtain⟨p,hp,rfl⟩:=List.mem_map.1 hx;exact E p (List.mem_of_mem_take hp))
   have ab:Hid (onc [] (z3m ((ps.take m).map InstQ.e))=defL (ps.map InstQ.e) m):=show _=_ by unfold defL;rw[List.map_take]
   clear ai E ah hT;have av:w.heap.size<X.heap.size:=Rb.lt
   go_wp2_with fail
   refine aj.mono ?_;rintro e w3 ⟨v3,q3,rfl,e3,l3,o3,ak,z⟩;replace Rb:=Rb.below z;have I:=hB.trans (z.mono hB.size);have F3:∀t∈q3.map TxnQ.e,t.F=0:=fun t ht=>ad.out t (by rw[←e3];exact ht)
   have ae:txnK.At w3 v3 q3:=Kind.at_of_row o3 (fun q hq=>txnK.rd_below (ak q hq) z);have Z:=z7e v3 q3 w3 ae (z6j o3) l3 (fun p hp=>q4J (t:=TxnQ.e p) (F3 _ (List.mem_map.2 ⟨p,hp,rfl⟩)));rw[e3,ab.out]at Z;obtain⟨a3,c3,rfl⟩:=z0g o3;clear aj o3 ak ae ad ab z hB
   go_wp2_with fail
   refine Z.mono ?_;rintro e w4 ⟨v4,q4,rfl,e4,l4,o4,al,A⟩;replace Rb:=Rb.below A;have J:=I.trans (A.mono I.size);have F4:∀t∈q4.map TxnQ.e,t.F=0:=fun t ht=>by
    rw[e4]at ht;rcases z71 _ _ t ht with ht|ht
    ·simp at ht
    ·exact F3 t (by rw[e3,List.map_take];exact ht)
   have af:txnK.At w4 v4 q4:=Kind.at_of_row o4 (fun q hq=>txnK.rd_below (al q hq) A);have U:=z5X v4 q4 w4 af (fun p hp=>by
    have:=(z2Q (F4 _ (List.mem_map.2 ⟨p,hp,rfl⟩))).2.2.2.1.1;have h9:1≤p.acts.length:=this;omega) (by have:=q2x F4;omega)
   rw[e4]at U;obtain⟨a4,c4,rfl⟩:=z0g o4;have au:w.heap.size<w4.heap.size:=Rb.lt;clear Z o4 al af A I F3 F4 e3 e4
   go_wp2_with fail
   refine U.mono ?_;rintro e w5 ⟨v5,q5,rfl,e5,o5,n5,g5,N⟩;replace Rb:=Rb.below N;have am:=J.trans (N.mono J.size);obtain⟨a5,c5,rfl⟩:=o5.shape;have E5:Hid (q5.map TxnQ.e=O):=show _=_ by rw[E0.out.2];exact e5
   have ED:Hid (D=0):=E0.out.1;clear U N J e5 E0;have KF:=z0x am (Nat.le_refl w.heap.size) #[.int .i64 0,.slice a5 q5.length c5];have O5:Hid _:=o5.out (z2F _ w.heap.size #[.int .i64 0,.slice a5 q5.length c5]) (fun k hk=>by have:=g5 k hk;simp only[List.mem_singleton];omega);have g6:∀k∈txnK.fp (.slice a5 q5.length c5) q5,w.heap.size≤k:=fun k hk=>by have:=g5 k hk;omega
   have Rr:=Rb.row #[.int .i64 0,.slice a5 q5.length c5]
   go_wp2_with (first|(refine z1n (by kernel_rfl) 94 _ _ rfl _ #[.int .i64 0,.slice a5 q5.length c5] rfl rfl 94 _ Rb q0T rfl (by simp[Value.oneCell']) ?_))
   obtain⟨y0,y1⟩:=Rr.cel2;refine bodyPost_ret (v:=.agg #[.int .i64 0,.slice a5 q5.length c5]) (by simp[results,Tryz.results45,go_sem,y0,y1]) rfl ?_;exact⟨_,q5,by rw[ED.out],E5.out,O5.out,n5,g6,KF⟩
  ·have W:inW n 0 (M:Int)=false:=by
    unfold inW;rw[Bool.and_eq_false_iff,decide_eq_false_iff_not,decide_eq_false_iff_not];omega
   have E0:Hid (D=3∧O=[]):=by
    rcases d.out with⟨h0,_⟩|⟨_,_,h0,h1⟩|⟨_,h0,_⟩
    ·exact absurd rfl h0
    ·exact⟨h0,h1⟩
    ·exact absurd h0 c
   clear d;rw[W];obtain⟨Y,y⟩:=Kind.own_nil (K:=txnK) (X.setRow w.heap.size #[.int .i64 3,.slice none 0 0]);have KF:=z0x hB (Nat.le_refl w.heap.size) #[.int .i64 3,.slice none 0 0];have Rr:=Rb.row #[.int .i64 3,.slice none 0 0]
   go_wp2_with (first|(refine z1n (by kernel_rfl) 94 _ _ rfl _ #[.int .i64 3,.slice none 0 0] rfl rfl 94 _ Rb q0T rfl (by simp[Value.oneCell']) ?_))
   obtain⟨y0,y1⟩:=Rr.cel2;refine bodyPost_ret (v:=.agg #[.int .i64 3,.slice none 0 0]) (by simp[results,Tryz.results45,go_sem,y0,y1]) rfl ?_;exact⟨_,[],by rw[E0.out.1],by rw[E0.out.2];rfl,Y,by rw[y];simp,by rw[y];simp,KF⟩
 ·have E0:Hid (D=C∧O=[]):=by
   rcases d.out with⟨_,h0,h1⟩|⟨h0,_⟩|⟨h0,_⟩
   ·exact⟨h0,h1⟩
   ·exact absurd h0 hC
   ·exact absurd h0 hC
  clear d HV HO;have ar:(C !=0)=true:=by simpa using hC
  obtain⟨c0,c1⟩:=Cb.cel2;obtain⟨Y,y⟩:=Kind.own_nil (K:=txnK) ((w1.alloc (.cells #[.int .i64 C,.int .i64 V] 113)).setRow w.heap.size #[.int .i64 C,.slice none 0 0]);have KF:=z0x hB (Nat.le_refl w.heap.size) #[.int .i64 C,.slice none 0 0];have Rr:=Rb.row #[.int .i64 C,.slice none 0 0]
  go_wp2_with (first|(refine z1n (by kernel_rfl) 94 _ _ rfl _ #[.int .i64 C,.slice none 0 0] rfl rfl 94 _ Rb q0T rfl (by simp[Value.oneCell']) ?_))
  obtain⟨y0,y1⟩:=Rr.cel2;refine bodyPost_ret (v:=.agg #[.int .i64 C,.slice none 0 0]) (by simp[results,Tryz.results45,go_sem,y0,y1]) rfl ?_;exact⟨_,[],by rw[E0.out.1],by rw[E0.out.2];rfl,Y,by rw[y];simp,by rw[y];simp,KF⟩
theorem q15{ps:List InstQ}{n:Int}{qs:List TxnQ}(h:qs.map TxnQ.e=dfT (ps.map InstQ.e) n)(_:ps.length+nmL InstQ.n ps≤1048576):qs.length+nmL TxnQ.n qs≤1048576:=by
 rcases z78 (ps.map InstQ.e) n with⟨_,_,e⟩|⟨_,_,_,e⟩|⟨h0,h1,_,e⟩
 ·rw[e]at h;have:qs=[]:=List.map_eq_nil_iff.1 h;subst this;simp[nmL]
 ·rw[e]at h;have:qs=[]:=List.map_eq_nil_iff.1 h;subst this;simp[nmL]
 ·rw[e]at h;have hF:∀t∈qs.map TxnQ.e,t.F=0:=fun t ht=>q4j (z2G h0) _ t (by rw[←h];exact ht)
  have h4:=q2x hF;have h16:qs.length≤16:=by
   have e1:qs.length=(qs.map TxnQ.e).length:=by simp
   rw[e1,h];have:=z56 (z3m ((ps.map InstQ.e).take n.toNat)) [];have h5:=q0S (ds:=(ps.map InstQ.e).take n.toNat) (fun x hx=>z2G h0 x (List.mem_of_mem_take hx));have h6:=((z2b _).1 h0).1.2;rw[List.length_take]at h5;unfold defL;simp only[List.length_nil]at this;omega
  omega
theorem Kind.At.take'{P:Type}{K:Kind P}{w:World}{a:Option Addr}{n cap:Nat}{ps:List P}(h:K.At w (.slice a n cap) ps)(m:Nat)(hm:m≤ps.length):K.At w (.slice a m cap) (ps.take m):=by
 obtain⟨a',c,e,hl,hr⟩:=h;simp only[Value.slice.injEq]at e;obtain⟨rfl,_,rfl⟩:=e;refine⟨a,cap,by rw[List.length_take,Nat.min_eq_left hm],?_,fun p hp=>hr p (List.mem_of_mem_take hp)⟩;have er:K.row ps=K.row (ps.take m)++K.row (ps.drop m):=by
  unfold Kind.row;rw[←List.flatMap_append,List.take_append_drop]
 rcases hl with h0|⟨b,off,ha,hlt,hc⟩
 ·left;rw[er]at h0;exact(List.append_eq_nil_iff.1 h0).1
 ·right;refine⟨b,off,ha,hlt,fun j x hx=>hc j x ?_⟩;rw[er,List.getElem?_append_left (List.getElem?_eq_some_iff.1 hx).1];exact hx
theorem Kind.Own.cap'{P:Type}{K:Kind P}{w:World}{a:Option Addr}{n cap:Nat}{ps:List P}(h:K.Own w (.slice a n cap) ps):n≤cap∧cap≤maxLen:=by
 rcases h.1.2 with⟨e,_⟩|⟨g,c,cur,e,_,_,h1,h2,_⟩
 ·simp only[Value.slice.injEq]at e;obtain⟨_,rfl,rfl⟩:=e;exact⟨Nat.le_refl _,by decide⟩
 ·simp only[Value.slice.injEq]at e;obtain⟨_,rfl,rfl⟩:=e;exact⟨h1,h2⟩
def preT(xs ys:List TxnD):Bool:=decide (xs.length≤ys.length) && sameTs xs (ys.take xs.length)
theorem z6k(v v':Value)(xs ys:List TxnQ)(w:World)(h:txnK.At w v xs)(h':txnK.Own w v' ys)(hl:xs.length+nmL TxnQ.n xs≤1048576)(C:ys.length+nmL TxnQ.n ys≤1048576):
  Calls Tryz.prog 43 #[v,v',.func (.func 44) #[] #[]] w fun e w'=>e=.returned (.bool (preT (xs.map TxnQ.e) (ys.map TxnQ.e)))∧Below w.heap.size w w':=by
 obtain⟨a,cap,rfl⟩:=h.shape;obtain⟨a',c,rfl⟩:=h'.shape;obtain⟨hc,A⟩:=h'.cap';unfold preT;rw[List.length_map,List.length_map];by_cases d:xs.length≤ys.length
 ·have hd:decide (xs.length≤ys.length)=true:=decide_eq_true d;rw[hd,Bool.true_and];have hT:=h'.at.take' xs.length d;have hn:nmL TxnQ.n (ys.take xs.length)≤nmL TxnQ.n ys:=z5r TxnQ.n ys xs.length;have hq:=z20 (.slice a xs.length cap) (.slice a' xs.length c) (xs.map TxnQ.e) ((ys.take xs.length).map TxnQ.e) w (z0k h) (z0k hT) (by rw[List.length_map,z0u];omega) (by rw[List.length_map,z0u,List.length_take];omega);rw[List.map_take]at hq;generalize sameTs (xs.map TxnQ.e) ((ys.map TxnQ.e).take xs.length)=E at*;have y:(xs.length:Int)≤(ys.length:Int):=by omega
  have I:xs.length≤c:=by omega
  have z:(xs.length:Int)≤(c:Int):=by omega
  have D:(0:Int)≤(xs.length:Int):=by omega
  clear hT hn hd;go_enter Tryz.func43,Tryz.ntmps43
  go_wp2_with fail
  refine hq.mono ?_;rintro e w2 ⟨rfl,x⟩
  go_wp2
  go_ret;exact⟨rfl,x⟩
 ·have hd:decide (xs.length≤ys.length)=false:=decide_eq_false d;rw[hd,Bool.false_and];have y:¬(xs.length:Int)≤(ys.length:Int):=by omega
  clear hd;go_enter Tryz.func43,Tryz.ntmps43
  go_wp2
  go_ret;exact⟨rfl,Below.refl _ _⟩
theorem z3Y(v v':Value)(xs ys:List TxnQ)(w:World)(h:txnK.At w v xs)(h':txnK.Own w v' ys)(hl:xs.length+nmL TxnQ.n xs≤1048576)(hl':ys.length+nmL TxnQ.n ys≤1048576):
  Calls Tryz.prog 21 #[v,v'] w fun e w'=>e=.returned (.bool (preT (xs.map TxnQ.e) (ys.map TxnQ.e)))∧Below w.heap.size w w':=by
 have hq:=z6k v v' xs ys w h h' hl hl';obtain⟨a,cap,rfl⟩:=h.shape;obtain⟨a',cap',rfl⟩:=h'.shape;generalize preT (xs.map TxnQ.e) (ys.map TxnQ.e)=E at*;go_enter Tryz.func21,Tryz.ntmps21
 go_wp2_with fail
 refine hq.mono ?_;rintro e w2 ⟨rfl,hb2⟩
 go_wp2
 go_ret;exact⟨rfl,hb2⟩
theorem z7f(v v':Value)(xs ys:List TxnQ)(w:World)(h:txnK.At w v xs)(h':txnK.Own w v' ys)(hl:xs.length+nmL TxnQ.n xs≤1048576)(C:ys.length+nmL TxnQ.n ys≤1048576):
  Calls Tryz.prog 13 #[v,v'] w fun e w'=>e=.returned (.bool (preT (xs.map TxnQ.e) (ys.map TxnQ.e)))∧Below w.heap.size w w':=by
 obtain⟨a,cap,rfl⟩:=h.shape;obtain⟨a',c,rfl⟩:=h'.shape;obtain⟨hc,A⟩:=h'.cap';unfold preT;rw[List.length_map,List.length_map];by_cases d:xs.length≤ys.length
 ·have hd:decide (xs.length≤ys.length)=true:=decide_eq_true d;rw[hd,Bool.true_and];have hT:=h'.at.take' xs.length d;have hn:nmL TxnQ.n (ys.take xs.length)≤nmL TxnQ.n ys:=z5r TxnQ.n ys xs.length;have hq:=z0N (.slice a xs.length cap) (.slice a' xs.length c) (xs.map TxnQ.e) ((ys.take xs.length).map TxnQ.e) w (z0k h) (z0k hT) (by rw[List.length_map,z0u];omega) (by rw[List.length_map,z0u,List.length_take];omega);rw[List.map_take]at hq;generalize sameTs (xs.map TxnQ.e) ((ys.map TxnQ.e).take xs.length)=E at*;have y:(xs.length:Int)≤(ys.length:Int):=by omega
  have I:xs.length≤c:=by omega
  have z:(xs.length:Int)≤(c:Int):=by omega
  have D:(0:Int)≤(xs.length:Int):=by omega
  clear hT hn hd;go_enter Tryz.func13,Tryz.ntmps13
  go_wp2_with fail
  refine hq.mono ?_;rintro e w2 ⟨rfl,x⟩
  go_wp2
  go_ret;exact⟨rfl,x⟩
 ·have hd:decide (xs.length≤ys.length)=false:=decide_eq_false d;rw[hd,Bool.false_and];have y:¬(xs.length:Int)≤(ys.length:Int):=by omega
  clear hd;go_enter Tryz.func13,Tryz.ntmps13
  go_wp2
  go_ret;exact⟨rfl,Below.refl _ _⟩
end Go.Proofs.YtljbililjlafcaaGreatDoor

/- Texts joined,with what the laws reach alone. -/
import Derived.WalkKit
import Derived.WalkSpells
import Derived.WalkLawsBesides
import Derived.BigQuiet
import Derived.Handy
import Derived.Test.YtciofogeiohleaaGreatDoorProg
import Derived.Deep.RegionHeld3
import Derived.Lib.SmallJoins
import Derived.Maps.AppendAt
set_option linter.unusedVariables false
set_option linter.unusedSimpArgs false
set_option maxRecDepth 100000
set_option maxHeartbeats 1000000
namespace Go.Proofs.YtciofogeiohleaaGreatDoor
open Go.RowKit Go.BigFrame
theorem pjE{α:Type}:(∀ (l:List α) (i:Nat) (a:α),l.toArray.setIfInBounds i a=(l.set i a).toArray)∧(∀ (l:List α) (x a:α),(x::l).set 0 a=a::l)∧(∀ (l:List α) (x a:α) (n:Nat),(x::l).set (n+1) a=x::l.set n a):=
 ⟨fun _ _ _=>List.setIfInBounds_toArray ..,fun _ _ _=>rfl,fun _ _ _ _=>rfl⟩
theorem pgE{α:Type}:(∀ (l:List α) (i:Nat) (h:i<l.toArray.size),l.toArray[i]=l[i]'(by simpa using h))∧(∀ (l:List α) (x:α) (i:Nat) (h:i+1<(x::l).length),(x::l)[i+1]=l[i]'(Nat.lt_of_succ_lt_succ h))∧(∀ (l:List α) (x:α) (h:0<(x::l).length),(x::l)[0]=x):=
 ⟨fun _ _ _=>List.getElem_toArray ..,fun _ _ _ _=>List.getElem_cons_succ ..,fun _ _ _=>rfl⟩
def Row(k:IntKind)(w:World)(a:Option Addr)(zs:List Int):Prop:=
 ∀i,i<zs.length→∃b off,a=some ⟨b,off,none⟩∧b<w.heap.size∧w.cell? ⟨b,off+i,none⟩=some (.int k (zs.getD i 0))
theorem Row.nil(k:IntKind)(w:World)(a:Option Addr):Row k w a []:=fun i h=>absurd h (Nat.not_lt_zero _)
theorem Row.below{k:IntKind}{w w':World}{a:Option Addr}{zs:List Int}(h:Row k w a zs)(hb:Below w.heap.size w w'):Row k w' a zs:=by
 intro i hi;obtain⟨b,off,ha,hlt,hc⟩:=h i hi;exact⟨b,off,ha,Nat.lt_of_lt_of_le hlt hb.size,by rw[hb.cell (p:=⟨b,off+i,none⟩) hlt];exact hc⟩
theorem Row.own{k:IntKind}{w:World}{base e n c:Nat}{a:Option Addr}{zs:List Int}(h:w.ownsRow base e 1 (.slice a n c) n (zs.map (Value.int k))):Row k w a zs:=by
 have hlen:zs.length=n:=by simpa using h.1
 intro i hi;rcases h.2 with⟨he,hn⟩|⟨g,cap,cur,he,hb,hg,r⟩
 ·omega
 ·simp only[Value.slice.injEq,true_and]at he;obtain⟨rfl,rfl⟩:=he;refine⟨g,0,rfl,(Array.getElem?_eq_some_iff.1 hg).1,?_⟩;have:=h.cellAt i (by omega);rw[Nat.zero_add,this];simp[List.getD,hi]
theorem z9n{k:IntKind}{w:World}{a:Option Addr}{len cap:Nat}{zs:List Int}
  (h:(a=none∧len=0∧cap=0∧zs=[])∨∃x,a=some x∧len≤cap∧cap≤maxLen∧zs.length=cap∧(∀i,i<zs.length→w.cell? (x.add i)=some (.int k (zs.getD i 0)))∧∀n∈zs,(Lit.int k n).wf=true):
  ∃ys:List Int,len=ys.length∧ys.length≤9223372036854775807∧Row k w a ys∧∀n∈ys,(Lit.int k n).wf=true:=by
 rcases h with⟨rfl,rfl,rfl,rfl⟩|⟨x,rfl,hl,hm,hz,hc,hw⟩
 ·exact⟨[],rfl,by simp,Row.nil _ _ _,by simp⟩
 ·refine⟨zs.take len,by simp;omega,by unfold maxLen at hm;simp;omega,?_,fun n hn=>hw n (List.mem_of_mem_take hn)⟩;intro i hi;simp at hi;have h1:=hc i (by omega);obtain⟨b,off,spot⟩:=x;have hspot:spot=none:=by simpa[Addr.add]using World.cell?_spot (hc 0 (by omega))
  subst hspot;have h2:w.cell? ⟨b,off+i,none⟩=some (.int k (zs.getD i 0)):=by rw[Addr.add_lit]at h1;exact h1
  refine⟨b,off,rfl,World.block_lt_of_cell? w _ h2,?_⟩;rw[h2];simp[List.getD,List.getElem?_take,show i<len by omega]
theorem z8Q{zs:List Int}(h:∀n∈zs,(Lit.int .u8 n).wf=true):∀i,0≤zs.getD i 0∧zs.getD i 0≤255:=by
 intro i;by_cases hi:i<zs.length
 ·have:=h (zs.getD i 0) (by simp[List.getD,hi]);exact bounds_u8 this
 ·simp[List.getD,List.getElem?_eq_none (show zs.length≤i by omega)]
theorem z0a{w w':World}{base e size n:Nat}{v:Value}{xs:List Value}(h:w.ownsRow base e size v n xs)(hb:Below w.heap.size w w'):w'.ownsRow base e size v n xs:=by
 refine⟨h.1,?_⟩;rcases h.2 with h2|⟨g,cap,cur,hv,hg,hh,r⟩
 ·exact Or.inl h2
 ·exact Or.inr ⟨g,cap,cur,hv,hg,by rw[hb.block g (Array.getElem?_eq_some_iff.1 hh).1];exact hh,r⟩
theorem z0b{w:World}{base e size n:Nat}{v:Value}{xs:List Value}(h:w.ownsRow base e size v n xs):∃a k,v=.slice a n k:=by
 rcases h.2 with⟨rfl,rfl⟩|⟨g,cap,cur,rfl,r⟩
 ·exact⟨_,_,rfl⟩
 ·exact⟨_,_,rfl⟩
theorem z0m{w:World}{base base' e size n:Nat}{v:Value}{xs:List Value}(h:w.ownsRow base e size v n xs)(hb:base'≤base):w.ownsRow base' e size v n xs:=by
 refine⟨h.1,?_⟩;rcases h.2 with h2|⟨g,cap,cur,hv,hg,r⟩
 ·exact Or.inl h2
 ·exact Or.inr ⟨g,cap,cur,hv,Nat.le_trans hb hg,r⟩
structure Box (w:World) (b:Nat) (x y:Value):Prop where
 fst:w.cell? ⟨b,0,none⟩=some x
 snd:w.cell? ⟨b,1,none⟩=some y
theorem Box.lt{w:World}{b:Nat}{x y:Value}(h:Box w b x y):b<w.heap.size:=World.block_lt_of_cell? w ⟨b,0,none⟩ h.fst
theorem Box.new(w:World)(x y:Value)(t:TypeId):Box (w.alloc (.cells #[x,y] t)) w.heap.size x y:=⟨by simp,by simp⟩
theorem Box.below{w w':World}{b:Nat}{x y:Value}(h:Box w b x y)(hb:Below w.heap.size w w'):Box w' b x y:=
 ⟨by rw[hb.cell (p:=⟨b,0,none⟩) h.lt];exact h.fst,by rw[hb.cell (p:=⟨b,1,none⟩) h.lt];exact h.snd⟩
theorem Box.alloc{w:World}{b:Nat}{x y:Value}(h:Box w b x y)(o:Obj):Box (w.alloc o) b x y:=h.below ((Below.refl _ _).alloc (Nat.le_refl _) o)
theorem Box.grown{w w':World}{b:Nat}{x y:Value}{row:Option Nat}(h:Box w b x y)(hg:w.grownBy w' row)(hne:some b≠row):Box w' b x y:=
 ⟨hg.cell h.fst hne,hg.cell h.snd hne⟩
def z8R(k:IntKind)(c:Int)(n:Nat):List Int:=(List.range n).map fun(i:Nat)=>k.wrap (c+(i:Int))
def laid(zs:List Int)(k:IntKind)(xs:List Value)(i:Nat):List Value:=(zs.take i).map (Value.int k)++xs.drop i
theorem z5I:(Tryz.prog.info? 2).map (fun i=>(i.zero,i.size,i.bytes))=some (some (.int .i64 0),1,8):=by kernel_rfl
def inB(v lo hi:Int):Bool:=decide (lo≤v∧v≤hi)
def vOk(most x:Int):Bool:=inB x 0 most||x==3
def vf(zs:List Int)(most:Int):Int:=if zs.length=3 then(if zs.all (vOk most)then 0 else 3)else 2
theorem three{zs:List Int}(h:zs.length=3):∃x y z,zs=[x,y,z]:=by
 match zs,h with
 |[x,y,z],_=>exact⟨x,y,z,rfl⟩
def Lies(w:World)(a:Option Addr)(xs:List Value):Prop:=
 xs=[]∨∃b off,a=some ⟨b,off,none⟩∧b<w.heap.size∧∀i x,xs[i]?=some x→w.cell? ⟨b,off+i,none⟩=some x
theorem Lies.below{w w':World}{a:Option Addr}{xs:List Value}(h:Lies w a xs)(hb:Below w.heap.size w w'):Lies w' a xs:=by
 rcases h with h|⟨b,off,ha,hlt,hc⟩
 ·exact Or.inl h
 ·exact Or.inr ⟨b,off,ha,Nat.lt_of_lt_of_le hlt hb.size,fun i x hx=>by rw[hb.cell (p:=⟨b,off+i,none⟩) hlt];exact hc i x hx⟩
theorem Lies.own{w:World}{base e size n c:Nat}{a:Option Addr}{xs:List Value}(h:w.ownsRow base e size (.slice a n c) n xs):Lies w a xs:=by
 rcases h.2 with⟨he,hn⟩|⟨g,cap,cur,he,hb,hg,r⟩
 ·left;have:=h.1;rw[hn,Nat.zero_mul]at this;exact List.eq_nil_of_length_eq_zero this
 ·right;simp only[Value.slice.injEq,true_and]at he;obtain⟨rfl,rfl⟩:=he;refine⟨g,0,rfl,(Array.getElem?_eq_some_iff.1 hg).1,fun i x hx=>?_⟩;have hi:i<n*size:=by rw[←h.1];exact(List.getElem?_eq_some_iff.1 hx).1
  rw[Nat.zero_add,h.cellAt i hi,hx]
structure ActD where
 kind:Int
 key:Int
 val:Int
def z0f:ActD:=⟨0,0,0⟩
def ActD.cells(x:ActD):List Value:=[.int .i64 x.kind,.int .i64 x.key,.int .i64 x.val]
def z0i(xs:List ActD):List Value:=xs.flatMap ActD.cells
def ActRow(w:World)(a:Option Addr)(xs:List ActD):Prop:=Lies w a (z0i xs)
theorem z0u(xs:List ActD):(z0i xs).length=xs.length*3:=by
 induction xs with
 |nil=>rfl
 |cons x xs ih=>simp only[z0i,List.flatMap_cons,List.length_append,List.length_cons]at ih⊢;rw[ih];simp[ActD.cells];omega
theorem z5a(xs:List ActD):∀ (i:Nat),i<xs.length→(z0i xs)[i*3]?=some (.int .i64 (xs.getD i z0f).kind)∧(z0i xs)[i*3+1]?=some (.int .i64 (xs.getD i z0f).key)∧(z0i xs)[i*3+2]?=some (.int .i64 (xs.getD i z0f).val):=by
 induction xs with
 |nil=>intro i h;simp at h
 |cons x xs ih=>
  intro i h
  cases i with
  |zero=>simp[z0i,ActD.cells]
  |succ i=>
   have e:z0i (x::xs)=x.cells++z0i xs:=rfl;have hl:x.cells.length=3:=rfl;obtain⟨h1,h2,h3⟩:=ih i (by simpa using h);rw[e,List.getElem?_append_right (by omega),List.getElem?_append_right (by omega),List.getElem?_append_right (by omega),hl,show(i+1)*3-3=i*3 by omega,show(i+1)*3+1-3=i*3+1 by omega,show(i+1)*3+2-3=i*3+2 by omega];simpa[List.getD]using⟨h1,h2,h3⟩
theorem ActRow.below{w w':World}{a:Option Addr}{xs:List ActD}(h:ActRow w a xs)(hb:Below w.heap.size w w'):ActRow w' a xs:=Lies.below h hb
theorem ActRow.at{w:World}{a:Option Addr}{xs:List ActD}(h:ActRow w a xs)(i:Nat)(hi:i<xs.length):
  ∃b off,a=some ⟨b,off,none⟩∧b<w.heap.size∧w.cell? ⟨b,off+i*3,none⟩=some (.int .i64 (xs.getD i z0f).kind)∧w.cell? ⟨b,off+i*3+1,none⟩=some (.int .i64 (xs.getD i z0f).key)∧w.cell? ⟨b,off+i*3+2,none⟩=some (.int .i64 (xs.getD i z0f).val):=by
 obtain⟨h1,h2,h3⟩:=z5a xs i hi;rcases h with h|⟨b,off,ha,hlt,hc⟩
 ·have:=z0u xs;rw[h]at this;simp at this;omega
 ·exact⟨b,off,ha,hlt,hc _ _ h1,by rw[Nat.add_assoc];exact hc _ _ h2,by rw[Nat.add_assoc];exact hc _ _ h3⟩
theorem z1N:(Tryz.prog.info? 163).map (fun i=>(i.zero,i.size,i.bytes))=some (some (.agg #[.int .i64 0,.int .i64 0,.int .i64 0]),3,24):=by kernel_rfl
structure Lat (w:World) where
 val:World
 isBelow:Below w.heap.size w val
structure LatB (B:Nat) (w:World) where
 val:World
 isBelow:Below B w val
def z2U:Op→Bool
 | .move _=>true
 | .assign _=>true
 | .pick _ _ _=>true
 | .load _ _=>true
 | .fieldAddr _ _ _=>true
 | .field _ _ _=>true
 | .binOp _ _ _ _ _=>true
 | .unOp _ _ _=>true
 | .convert _ _ _=>true
 | .indexAddr _ _ _=>true
 | .extract _ _=>true
 | .nilCheck _=>true
 | .build _ _=>true
 |_=>false
theorem z4A{P:Program}{s:Sem Value}{w w':World}{n:Next}(h:(do let x←s;pure (Next.value x):Sem Next).run P w=.ok n w'):∃v,n=.value v:=by
 rw[Sem.run_bind]at h
 cases hs:s.run P w with
 |ok x w1=>
  rw[hs]at h;simp[Result.andThen,Sem.run_pure]at h;exact⟨x,h.1.symm⟩
 |halt x w1=>
  rw[hs]at h;simp[Result.andThen]at h
theorem z5b{P:Program}{g:Program→Sem (Option Bool)}{u:Unsupported}{x:Value}{w w':World}{n:Next}
  (h:(do let p←program;let r←g p;if(r !=some false)=true then do unsupported u;pure (Next.value x)else pure (Next.value x):Sem Next).run P w=.ok n w'):∃v,n=.value v:=by
 simp only[Sem.run_bind,run_program,Result.andThen_ok]at h
 cases hs:(g P).run P w with
 |ok r w1=>
  rw[hs]at h;simp only[Result.andThen_ok]at h;split at h
  ·rw[Sem.run_bind]at h
   cases hu:(unsupported u:Sem Unit).run P w1 with
   |ok r w2=>rw[hu]at h;simp[Sem.run_pure]at h;exact⟨_,h.1.symm⟩
   |halt r w2=>rw[hu]at h;simp[Result.andThen]at h
  ·simp[Sem.run_pure]at h;exact⟨_,h.1.symm⟩
 |halt r w1=>rw[hs]at h;simp[Result.andThen]at h
theorem z3t{P:Program}{o:Oper}{ρ:Operand→Value}{w w':World}{n:Next}(hp:z2U o.op=true)(h:(execOp ρ o).run P w=.ok n w'):∃v,n=.value v:=by
  unfold execOp at h
  cases hop:o.op<;>rw[hop]at hp<;>simp only[z2U,Bool.false_eq_true]at hp<;>rw[hop]at h<;>dsimp only at h
  all_goals first
    |exact z4A h
    |(simp[Sem.run_pure]at h;exact⟨_,h.1.symm⟩)
    | (split at h
       all_goals first
         |(simp[Sem.run_pure]at h;exact⟨_,h.1.symm⟩)
         |(simp[go_sem]at h;done)
         | (split at h
            all_goals first
              |(simp[Sem.run_pure]at h;exact⟨_,h.1.symm⟩)
              |(simp[go_sem]at h;done)
              | (exact z5b (g:=fun p=>nilAhead (p.types.size + Made.depth) _ _ _) h)))
    | (rw [Sem.run_bind] at h
       revert h
       cases (asBool (ρ _)).run P w with
       |ok x w1=>intro h;simp[Result.andThen,Sem.run_pure]at h;exact⟨_,h.1.symm⟩
       | halt x w1=>intro h;simp [Result.andThen] at h)
section
variable {P:Program} {ops:Array Oper} {Q:Exit→Act→World→Prop} {S:World→Prop}
def z3g(ops:Array Oper):List Nat→Array Bool→Bool
 |[],_=>true
 |i::r,l=>Region.free .any ops l i && (Region.ready .any ops l).contains i && z3g ops r (l.setIfInBounds i true)
def z2J:List Nat→Array Bool→Array Bool
 |[],l=>l
 |i::r,l=>z2J r (l.setIfInBounds i true)
def z48(rs:List (Nat × Nat)):List Nat:=rs.flatMap fun r=>(List.range r.2).map (r.1+ ·)
def z2K(l:List Oper)(rs:List (Nat × Nat)):List Oper:=rs.flatMap fun r=>(l.drop r.1).take r.2
theorem pkE:(∀ (l:List Oper) (rs:List (Nat × Nat)),z2K l rs=rs.flatMap fun r=>(l.drop r.1).take r.2)∧(∀l:List Oper,l.toArray.toList=l)∧
  (∀ (f:Nat × Nat→List Oper) (x:Nat × Nat) (xs:List (Nat × Nat)),(x::xs).flatMap f=f x++xs.flatMap f)∧(∀f:Nat × Nat→List Oper,List.flatMap f []=[])∧
  (∀ (o:Oper) (l:List Oper) (i:Nat),(o::l).drop (i+1)=l.drop i)∧(∀l:List Oper,l.drop 0=l)∧(∀ (o:Oper) (l:List Oper) (i:Nat),(o::l).take (i+1)=o::l.take i)∧(∀l:List Oper,l.take 0=[])∧
  (∀ (o:Oper) (l m:List Oper),(o::l)++m=o::(l++m))∧(∀l:List Oper,[]++l=l)∧(∀l:List Oper,l++[]=l):=
 ⟨fun _ _=>rfl,fun _=>rfl,fun _ _ _=>List.flatMap_cons,fun _=>rfl,fun _ _ _=>rfl,fun _=>rfl,fun _ _ _=>rfl,fun _=>rfl,fun _ _ _=>rfl,fun _=>rfl,fun _=>List.append_nil _⟩
theorem z6N(hs:Region.noSelect ops=true)(hQ:∀c a d v w,Q (.panic c) (a.put d v) w→Q (.panic c) a w):
  ∀ (A:List Nat) (os:List Oper) (l:Array Bool) (a:Act) (w:World) (y:Nat),A.map (ops[·]?)=os.map some→os.all (fun o=>z2U o.op)=true→z3g ops A l=true→S w→
   wpQuiet P ops S (fun a'=>wpAnyH P .any ops Q S y (z2J A l) a' w) os a→wpAnyH P .any ops Q S (y+A.length) l a w:=by
 intro A;induction A with
 |nil=>
  intro os l a w y z _ _ _ h
  cases os with
  |nil=>exact h
  |cons o os=>simp at z
 |cons i r ih=>
  intro os l a w y z C E hS h
  cases os with
  |nil=>simp at z
  |cons o os=>
   simp only[List.map_cons,List.cons.injEq]at z;simp only[List.all_cons,Bool.and_eq_true]at C;simp only[z3g,Bool.and_eq_true]at E;obtain⟨⟨hf,hr⟩,D⟩:=E;simp only[wpQuiet]at h;by_cases hw:Region.wanted o (yielded ops a.tmps)=true
   ·rw[if_pos hw]at h;obtain⟨v,hv,hk⟩:=h;refine wpAnyH_take (i:=i) (oi:=o) (v:=v) z.1 hs hf hr (fun c a w=>hQ c a _ _ w) (Or.inl ⟨hw,fun u hu=>?_⟩) hS (ih os _ _ w y z.2 C.2 D hS hk);have hq:=hv u hu;unfold Oper.quietAt at hq
    cases hrun:(execOp a.eval o).run P u with
    |ok n u'=>
     obtain⟨x,rfl⟩:=z3t C.1 hrun;rw[hrun]at hq;obtain⟨e1,e2⟩:=hq;rw[e1,e2]
    |halt x u'=>
     rw[hrun]at hq;exact hq.elim
   ·rw[if_neg hw]at h;have I:Region.wanted o (yielded ops a.tmps)=false:=by simpa using hw
    exact wpAnyH_take (i:=i) (oi:=o) (v:=undef) z.1 hs hf hr (fun c a w=>hQ c a _ _ w) (Or.inr ⟨I,rfl⟩) hS (ih os _ _ w y z.2 C.2 D hS h)
theorem z6e(hs:Region.noSelect ops=true)(hQ:∀c a d v w,Q (.panic c) (a.put d v) w→Q (.panic c) a w)(i:Nat)(d:Option Tmp){l:Array Bool}{a:Act}{w:World}{fuel:Nat}
  (hd:(ops[i]?).map (·.dst)=some d) (hok:z3g ops [i] l=true) (hw:(ops[i]?).map (fun o=>Region.wanted o (yielded ops a.tmps))=some false) (hS:S w)
  (h:wpAnyH P .any ops Q S fuel (z2J [i] l) (a.put d undef) w):wpAnyH P .any ops Q S (fuel+1) l a w:=by
 cases ho:ops[i]? with
 |none=>rw[ho]at hd;simp at hd
 |some o=>
  rw[ho]at hd hw;simp only[Option.map_some,Option.some.injEq]at hd hw;subst hd;simp only[z3g,Bool.and_eq_true,Bool.and_true]at hok;exact wpAnyH_take (i:=i) (oi:=o) (v:=undef) ho hs hok.1 hok.2 (fun c a w=>hQ c a _ _ w) (Or.inr ⟨hw,rfl⟩) hS h
theorem z6f(i:Nat)(d:Option Tmp)(f:Nat)(args:Array Value){l:Array Bool}{a:Act}{w:World}{fuel:Nat}
  (hd:(ops[i]?).map (·.dst)=some d) (hr:Region.ready .any ops l=[i]) (hw:(ops[i]?).map (fun o=>Region.wanted o (yielded ops a.tmps))=some true)
  (hrun:(ops[i]?).map (fun o=>(execOp a.eval o).run P w)=some (.ok (.enter f args) w))
  (hc:Calls P f args w (fun e w'=>∃v,e=.returned v∧S w'∧wpAnyH P .any ops Q S fuel (z2J [i] l) (a.put d v) w')):wpAnyH P .any ops Q S (fuel+1) l a w:=by
 cases ho:ops[i]? with
 |none=>rw[ho]at hd;simp at hd
 |some o=>
  rw[ho]at hd hw hrun;simp only[Option.map_some,Option.some.injEq]at hd hw hrun;subst hd;refine wpAnyH_all hr (by simp) (fun j hj=>?_);simp only[List.mem_singleton]at hj;subst hj;unfold wpOp;simp only[ho,hw,if_true];refine .inl ?_;unfold Oper.wp;rw[hrun];simp only[Oper.upon];refine hc.mono fun e w' he=>?_
  obtain⟨v,rfl,h1,h2⟩:=he;exact⟨h1,h2⟩
theorem z6O(rs:List (Nat × Nat))(fuel:Nat){F:Nat}{l:Array Bool}{a:Act}{w:World}(hF:F=fuel+(z48 rs).length)(hs:Region.noSelect ops=true)(hm:(z48 rs).map (ops[·]?)=(z2K ops.toList rs).map some)
  (hp:(z2K ops.toList rs).all (fun o=>z2U o.op)=true) (hok:z3g ops (z48 rs) l=true) (hS:S w)
  (h:wpQuiet P ops S (fun a'=>wpAnyH P .any ops (NoPanic Q) S fuel (z2J (z48 rs) l) a' w) (z2K ops.toList rs) a):wpAnyH P .any ops (NoPanic Q) S F l a w:=by
 subst hF;exact z6N hs (fun _ _ _ _ _ h=>h) (z48 rs) _ l a w fuel hm hp hok hS h
theorem z8k(i:Nat)(d:Option Tmp)(fuel:Nat){F:Nat}{l:Array Bool}{a:Act}{w:World}(hF:F=fuel+1)(hs:Region.noSelect ops=true)
  (hd:(ops[i]?).map (·.dst)=some d) (hok:z3g ops [i] l=true) (hw:(ops[i]?).map (fun o=>Region.wanted o (yielded ops a.tmps))=some false) (hS:S w)
  (h:wpAnyH P .any ops (NoPanic Q) S fuel (z2J [i] l) (a.put d undef) w):wpAnyH P .any ops (NoPanic Q) S F l a w:=by
 subst hF;exact z6e hs (fun _ _ _ _ _ h=>h) i d hd hok hw hS h
theorem z8l(i:Nat)(d:Option Tmp)(f:Nat)(args:Array Value)(fuel:Nat){F:Nat}{l:Array Bool}{a:Act}{w:World}(hF:F=fuel+1)
  (hd:(ops[i]?).map (·.dst)=some d) (hr:Region.ready .any ops l=[i]) (hw:(ops[i]?).map (fun o=>Region.wanted o (yielded ops a.tmps))=some true)
  (hrun:(ops[i]?).map (fun o=>(execOp a.eval o).run P w)=some (.ok (.enter f args) w))
  (hc:Calls P f args w (fun e w'=>∃v,e=.returned v∧S w'∧wpAnyH P .any ops (NoPanic Q) S fuel (z2J [i] l) (a.put d v) w')):wpAnyH P .any ops (NoPanic Q) S F l a w:=by
 subst hF;exact z6f i d f args hd hr hw hrun hc
theorem sgr(rs:List (Nat × Nat))(fuel:Nat){F:Nat}{l:Array Bool}{a:Act}{w:World}(h5:(F,Region.noSelect ops,(z48 rs).map (ops[·]?),(z2K ops.toList rs).all (fun o=>z2U o.op),z3g ops (z48 rs) l)=(fuel+(z48 rs).length,true,(z2K ops.toList rs).map some,true,true))(hS:S w)
  (h:wpQuiet P ops S (fun a'=>wpAnyH P .any ops (NoPanic Q) S fuel (z2J (z48 rs) l) a' w) (z2K ops.toList rs) a):wpAnyH P .any ops (NoPanic Q) S F l a w:=by
 simp only[Prod.mk.injEq]at h5;exact z6O rs fuel h5.1 h5.2.1 h5.2.2.1 h5.2.2.2.1 h5.2.2.2.2 hS h
theorem ska(i:Nat)(d:Option Tmp)(fuel:Nat){F:Nat}{l:Array Bool}{a:Act}{w:World}(h5:(F,Region.noSelect ops,(ops[i]?).map (·.dst),z3g ops [i] l,(ops[i]?).map (fun o=>Region.wanted o (yielded ops a.tmps)))=(fuel+1,true,some d,true,some false))(hS:S w)
  (h:wpAnyH P .any ops (NoPanic Q) S fuel (z2J [i] l) (a.put d undef) w):wpAnyH P .any ops (NoPanic Q) S F l a w:=by
 simp only[Prod.mk.injEq]at h5;exact z8k i d fuel h5.1 h5.2.1 h5.2.2.1 h5.2.2.2.1 h5.2.2.2.2 hS h
theorem cla(i:Nat)(d:Option Tmp)(f:Nat)(args:Array Value)(fuel:Nat){F:Nat}{l:Array Bool}{a:Act}{w:World}(h5:(F,(ops[i]?).map (·.dst),Region.ready .any ops l,(ops[i]?).map (fun o=>Region.wanted o (yielded ops a.tmps)),(ops[i]?).map (fun o=>(execOp a.eval o).run P w))=(fuel+1,some d,[i],some true,some (.ok (.enter f args) w)))
  (hc:Calls P f args w (fun e w'=>∃v,e=.returned v∧S w'∧wpAnyH P .any ops (NoPanic Q) S fuel (z2J [i] l) (a.put d v) w')):wpAnyH P .any ops (NoPanic Q) S F l a w:=by
 simp only[Prod.mk.injEq]at h5;exact z8l i d f args fuel h5.1 h5.2.1 h5.2.2.1 h5.2.2.2.1 h5.2.2.2.2 hc
def ThenGo(Q:Exit→Act→World→Prop)(K:Act→World→Prop):Exit→Act→World→Prop
 | .normal,a,w=>K a w
 |e,a,w=>NoPanic Q e a w
theorem ThenGo.to{K:Act→World→Prop}{a:Act}{w:World}(h:K a w):ThenGo Q K .normal a w:=h
theorem z8S(i:Nat)(o:Oper)(fuel:Nat){F:Nat}{l:Array Bool}{a:Act}{w:World}(hF:F=fuel+1)(ho:ops[i]?=some o)(hr:Region.ready .any ops l=[i])
  (h:wpList P ops (ThenGo Q (fun a' w'=>S w'∧wpAnyH P .any ops (NoPanic Q) S fuel (z2J [i] l) a' w')) [o] a w):wpAnyH P .any ops (NoPanic Q) S F l a w:=by
 subst hF;refine wpAnyH_all hr (by simp) (fun j hj=>?_);simp only[List.mem_singleton]at hj;subst hj;unfold wpOp;simp only[ho];simp only[wpList]at h;split at h
 ·rename_i hw
  rw[if_pos hw];rcases h with h|⟨h1,h2⟩
  ·left;unfold Oper.wp at h⊢;revert h;generalize (execOp a.eval o).run P w=r;intro h;unfold Oper.upon at h⊢;split at h
   ·exact h
   ·exact h
   ·exact h
   ·refine Calls.mono h fun e w' he=>?_
    cases e<;>exact he
   ·exact h
   ·exact h
   ·exact h
  ·exact Or.inr ⟨h1,h2⟩
 ·rename_i hw
  rw[if_neg hw];exact h
theorem ona(i:Nat){o:Oper}(fuel:Nat){F:Nat}{l:Array Bool}{a:Act}{w:World}(ho:ops[i]?=some o)(h2:(F,Region.ready .any ops l)=(fuel+1,[i]))
  (h:wpList P ops (ThenGo Q (fun a' w'=>S w'∧wpAnyH P .any ops (NoPanic Q) S fuel (z2J [i] l) a' w')) [o] a w):wpAnyH P .any ops (NoPanic Q) S F l a w:=by
 simp only[Prod.mk.injEq]at h2;exact z8S i o fuel h2.1 ho h2.2 h
theorem z0k{F:Nat}{l:Array Bool}{a:Act}{w:World}(hr:Region.ready .any ops l=[])(h:Q .normal a w):wpAnyH P .any ops (NoPanic Q) S F l a w:=wpAnyH_done hr (NoPanic.normal h) F
theorem z0h{id:Nat}{a:Act}{w:World}(hm:P.follows .mixedOrders=true)
  (h:wpAnyH P .any ops (NoPanic Q) S ops.size (Array.replicate ops.size false) a w.drew):(Code.region id ops true).wp P Q a w:=
 wp_region_noPanic (wp_region_held hm h)
theorem z5J:∀c a d v w,NoPanic Q (.panic c) (Act.put a d v) w→NoPanic Q (.panic c) a w:=fun _ _ _ _ _ h=>h
end
theorem z0q{w:World}{a:Addr}{v:Value}(h:w.cell? a=some v):∀u:Lat w,u.val.cell? a=some v:=fun u=>by
 rw[u.isBelow.cell (World.block_lt_of_cell? w a h)];exact h
theorem z0l{w W w':World}(h:Below w.heap.size w W)(hb:Below W.heap.size W w'):Below w.heap.size w w':=h.trans (hb.mono h.size)
def inW(n lo hi:Int):Bool:=decide (lo≤n) && decide (n≤hi)
def actF(x:ActD):Int:=
 if(inW x.kind 1 4=false)∨((x.kind==3)=true∧(x.val !=0)=true)then 1
 else if inW x.key 1 20=false∨inW x.val (-1000) 1000=false then 3 else 0
def z1L:List ActD→Int
 |[]=>0
 |x::r=>if actF x=0 then z1L r else actF x
def txnF(i s q:Int)(zs:List ActD):Int:=
 if inW i 1 200=false∨inW s 1 9=false∨inW q 1 99=false then 3
 else if zs.length<1∨4<zs.length then 2 else z1L zs
theorem z3u(zs:List ActD):∀k,(∀j,j<k→actF (zs.getD j z0f)=0)→k<zs.length→actF (zs.getD k z0f)≠0→z1L zs=actF (zs.getD k z0f):=by
 induction zs with
 |nil=>intro k _ h;simp at h
 |cons x r ih=>
  intro k h0 hk hne
  cases k with
  |zero=>simp[List.getD]at hne⊢;simp[z1L,hne]
  |succ k=>
   have hx:actF x=0:=by simpa[List.getD]using h0 0 (by omega)
   have:=ih k (fun j hj=>by simpa[List.getD]using h0 (j+1) (by omega)) (by simpa using hk) (by simpa[List.getD]using hne);simp only[z1L,hx,if_true];rw[this];simp[List.getD]
theorem z4i(zs:List ActD)(h:∀j,j<zs.length→actF (zs.getD j z0f)=0):z1L zs=0:=by
 induction zs with
 |nil=>rfl
 |cons x r ih=>
  have hx:actF x=0:=by simpa[List.getD]using h 0 (by simp)
  simp only[z1L,hx,if_true];exact ih (fun j hj=>by simpa[List.getD]using h (j+1) (by simpa using hj))
theorem z0Z(n lo hi:Int)(w:World):
    Calls Tryz.prog 38 #[.int .i64 n,.int .i64 lo,.int .i64 hi] w fun e w'=>e=.returned (.bool (inW n lo hi))∧w'=w:=by
  unfold inW
  cases h1:decide (lo≤n)<;>cases h2:decide (n≤hi)<;>simp only[decide_eq_true_eq,decide_eq_false_iff_not]at h1 h2<;>
  (go_enter Tryz.func38,Tryz.ntmps38
   go_wp2
   go_ret;exact ⟨rfl,rfl⟩)
theorem z2q(n lo hi:Int)(w:World):
    Calls Tryz.prog 55 #[.int .i64 n,.int .i64 lo,.int .i64 hi] w fun e w'=>e=.returned (.bool (inW n lo hi))∧w'=w:=by
  unfold inW
  cases h1:decide (lo≤n)<;>cases h2:decide (n≤hi)<;>simp only[decide_eq_true_eq,decide_eq_false_iff_not]at h1 h2<;>
  (go_enter Tryz.func55,Tryz.ntmps55
   go_wp2
   go_ret;exact ⟨rfl,rfl⟩)
theorem z3v(k y v:Int):
  (inW k 1 4=false∧actF ⟨k,y,v⟩=1)∨(inW k 1 4=true∧(k==3)=true∧(v !=0)=true∧actF ⟨k,y,v⟩=1)∨
  (inW k 1 4=true∧(((k == 3)=true∧(v != 0)=false)∨(k == 3)=false) ∧
   ((inW y 1 20=false∧actF ⟨k,y,v⟩=3)∨(inW y 1 20=true∧inW v (-1000) 1000=false∧actF ⟨k,y,v⟩=3)∨(inW y 1 20=true∧inW v (-1000) 1000=true∧actF ⟨k,y,v⟩=0))):=by
 unfold actF
 cases h1:inW k 1 4<;>cases h2:(k==3)<;>cases h3:(v !=0)<;>cases h4:inW y 1 20<;>cases h5:inW v (-1000) 1000<;>simp[h1,h2,h3,h4,h5]
theorem z2V(k y v:Int)(w:World):
    Calls Tryz.prog 191 #[.agg #[.int .i64 k,.int .i64 y,.int .i64 v]] w fun e w'=>e=.returned (.int .i64 (actF ⟨k,y,v⟩))∧Below w.heap.size w w':=by
  rcases z3v k y v with⟨h1,h⟩|⟨h1,h2,h3,h⟩|⟨h1,⟨h2,h3⟩|h2,⟨h4,h⟩|⟨h4,h5,h⟩|⟨h4,h5,h⟩⟩<;>rw[h]<;>clear h<;>
  (go_enter Tryz.func191,Tryz.ntmps191
   go_wp2_with (go_at_call 38;refine(z0Z _ _ _ _).mono ?_;rintro e w' ⟨rfl,rfl⟩)
   go_ret;exact ⟨rfl,by go_grown⟩)
theorem z5c(b o:Nat)(k y v:Int)(w:World)(h0:w.cell? ⟨b,o,none⟩=some (.int .i64 k))(h1:w.cell? ⟨b,o+1,none⟩=some (.int .i64 y))(h2:w.cell? ⟨b,o+2,none⟩=some (.int .i64 v)):
    Calls Tryz.prog 189 #[.pointer (some ⟨b,o,none⟩)] w fun e w'=>e=.returned (.int .i64 (actF ⟨k,y,v⟩))∧w'=w:=by
  rcases z3v k y v with⟨h1,h⟩|⟨h1,h2,h3,h⟩|⟨h1,⟨h2,h3⟩|h2,⟨h4,h⟩|⟨h4,h5,h⟩|⟨h4,h5,h⟩⟩<;>rw[h]<;>clear h<;>
  (go_enter Tryz.func189,Tryz.ntmps189
   go_wp2_with (go_at_call 55;refine(z2q _ _ _ _).mono ?_;rintro e w' ⟨rfl,rfl⟩)
   go_ret;exact ⟨rfl,rfl⟩)
theorem z2r(i s q:Int)(zs:List ActD):
  (inW i 1 200=false∧txnF i s q zs=3)∨(inW i 1 200=true∧inW s 1 9=false∧txnF i s q zs=3)∨(inW i 1 200=true∧inW s 1 9=true∧inW q 1 99=false∧txnF i s q zs=3)∨
  (inW i 1 200=true∧inW s 1 9=true∧inW q 1 99=true∧((zs.length<1∧txnF i s q zs=2)∨(4<zs.length∧txnF i s q zs=2)∨(¬zs.length<1∧¬4<zs.length∧txnF i s q zs=z1L zs))):=by
 unfold txnF
 cases h1:inW i 1 200<;>cases h2:inW s 1 9<;>cases h3:inW q 1 99<;>simp only[Bool.false_eq_true,Bool.true_eq_false,reduceCtorEq,if_true,if_false,false_or,or_false,true_or,or_true,false_and,true_and,and_true,and_false]
 by_cases h4:zs.length<1<;>by_cases h5:4<zs.length<;>simp only[h4,h5,if_true,if_false,or_true,true_or,or_false,false_or,not_true_eq_false,not_false_eq_true,false_and,true_and,and_self]
theorem z1O(i s q:Int)(a:Option Addr)(cap:Nat)(zs:List ActD)(w:World)(h:ActRow w a zs)(hl:zs.length≤1048576):
    Calls Tryz.prog 145 #[.agg #[.int .i64 i,.int .i64 s,.int .i64 q,.slice a zs.length cap]] w fun e w'=>e=.returned (.int .i64 (txnF i s q zs))∧Below w.heap.size w w':=by
  rcases z2r i s q zs with⟨h1,h⟩|⟨h1,h2,h⟩|⟨h1,h2,h3,h⟩|⟨h1,h2,h3,⟨h4,h⟩|⟨h4,h⟩|⟨h4,h5,hf⟩⟩
  all_goals try
    (rw [h];clear h
     go_enter Tryz.func145,Tryz.ntmps145
     go_wp2_with (go_at_call 38;refine(z0Z _ _ _ _).mono ?_;rintro e w' ⟨rfl,rfl⟩)
     go_ret;exact ⟨rfl,by go_grown⟩)
  rw[hf];clear hf;go_enter Tryz.func145,Tryz.ntmps145
  go_wp2_with (go_at_call 38;refine(z0Z _ _ _ _).mono ?_;rintro e w' ⟨rfl,rfl⟩)
  go_loopw[35] (fun j wr=>∃k:Nat,k≤zs.length∧j=.int .i64 k∧Below w.heap.size w wr∧Hid (∀j,j<k→actF (zs.getD j z0f)=0)) (fun j _=>zs.length-(intOf j).toNat)
  case atStart=>exact⟨0,Nat.zero_le _,rfl,by go_grown,fun j hj=>absurd hj (Nat.not_lt_zero _)⟩
  case round=>
    obtain⟨k,hk,rfl,hb,HA⟩:=hrel;by_cases C:k<zs.length
    · obtain⟨b,N,rfl,L,x,y,A⟩:=(h.below hb).at k C;have M:=hb.size;by_cases hF:actF (zs.getD k z0f)=0
      · have HB:Hid (∀j,j<k+1→actF (zs.getD j z0f)=0):=by
          intro j hj;by_cases D:j=k
          · subst D;exact hF
          · exact HA.out j (by omega)
        have c:=z2V (zs.getD k z0f).kind (zs.getD k z0f).key (zs.getD k z0f).val;rw[show actF ⟨(zs.getD k z0f).kind,(zs.getD k z0f).key,(zs.getD k z0f).val⟩=0 from hF]at c;clear HA hF;generalize zs.getD k z0f=z at x y A c
        go_wp2_with (go_at_call 191;refine(c _).mono ?_;rintro e w' ⟨rfl,d⟩)
        go_roundw
        case rel=>exact⟨k+1,by omega,by go_num,z0l (by go_grown) d,HB⟩
        case measure=>simp[intOf];omega
      · have E:Hid (z1L zs=actF (zs.getD k z0f)):=z3u zs k HA.out C hF;have c:=z2V (zs.getD k z0f).kind (zs.getD k z0f).key (zs.getD k z0f).val;have J:(actF (zs.getD k z0f) !=0)=true:=by simpa using hF
        change∀w,Calls _ _ _ w fun e w'=>e=.returned (.int .i64 (actF (zs.getD k z0f)))∧_ at c
        clear HA hF;generalize actF (zs.getD k z0f)=r at c E J;generalize zs.getD k z0f=z at x y A c
        go_wp2_with (go_at_call 191;refine(c _).mono ?_;rintro e w' ⟨rfl,d⟩)
        go_ret;rw[E.out];exact⟨rfl,z0l (by go_grown) d⟩
    · have I:k=zs.length:=by omega
      subst I;have E:Hid (z1L zs=0):=z4i zs HA.out;clear HA
      go_wp2
      go_ret;rw[E.out];exact⟨rfl,hb⟩
structure Box4 (w:World) (b o:Nat) (x0 x1 x2 x3:Value):Prop where
 c0:w.cell? ⟨b,o,none⟩=some x0
 c1:w.cell? ⟨b,o+1,none⟩=some x1
 c2:w.cell? ⟨b,o+2,none⟩=some x2
 c3:w.cell? ⟨b,o+3,none⟩=some x3
theorem Box4.below{w w':World}{b o:Nat}{x0 x1 x2 x3:Value}(h:Box4 w b o x0 x1 x2 x3)(hb:Below w.heap.size w w'):Box4 w' b o x0 x1 x2 x3:=by
 have hlt:b<w.heap.size:=World.block_lt_of_cell? w ⟨b,o,none⟩ h.c0;exact⟨by rw[hb.cell (p:=⟨b,o,none⟩) hlt];exact h.c0,by rw[hb.cell (p:=⟨b,o+1,none⟩) hlt];exact h.c1,by rw[hb.cell (p:=⟨b,o+2,none⟩) hlt];exact h.c2,by rw[hb.cell (p:=⟨b,o+3,none⟩) hlt];exact h.c3⟩
theorem z5K(b o:Nat)(i s q:Int)(a:Option Addr)(cap:Nat)(zs:List ActD)(w:World)(hB:Box4 w b o (.int .i64 i) (.int .i64 s) (.int .i64 q) (.slice a zs.length cap))(h:ActRow w a zs)(hl:zs.length≤1048576):
    Calls Tryz.prog 142 #[.pointer (some ⟨b,o,none⟩)] w fun e w'=>e=.returned (.int .i64 (txnF i s q zs))∧w'=w:=by
  obtain⟨b0,b1,b2,b3⟩:=hB;rcases z2r i s q zs with⟨h1,h⟩|⟨h1,h2,h⟩|⟨h1,h2,h3,h⟩|⟨h1,h2,h3,⟨h4,h⟩|⟨h4,h⟩|⟨h4,h5,hf⟩⟩
  all_goals try
    (rw [h];clear h
     go_enter Tryz.func142,Tryz.ntmps142
     go_wp2_with (go_at_call 55;refine(z2q _ _ _ _).mono ?_;rintro e w' ⟨rfl,rfl⟩)
     go_ret;exact ⟨rfl,rfl⟩)
  rw[hf];clear hf;go_enter Tryz.func142,Tryz.ntmps142
  go_wp2_with (go_at_call 55;refine(z2q _ _ _ _).mono ?_;rintro e w' ⟨rfl,rfl⟩)
  clear b0 b1 b2
  go_loop[3] (fun j=>∃k:Nat,k≤zs.length∧j=.int .i64 k∧Hid (∀j,j<k→actF (zs.getD j z0f)=0)) (fun j=>zs.length-(intOf j).toNat)
  case atStart=>exact⟨0,Nat.zero_le _,rfl,fun j hj=>absurd hj (Nat.not_lt_zero _)⟩
  case round=>
    obtain⟨k,hk,rfl,HA⟩:=hrel;by_cases z:k<zs.length
    · obtain⟨b',A,rfl,J,d,x,y⟩:=h.at k z;by_cases hF:actF (zs.getD k z0f)=0
      · have HB:Hid (∀j,j<k+1→actF (zs.getD j z0f)=0):=by
          intro j hj;by_cases C:j=k
          · subst C;exact hF
          · exact HA.out j (by omega)
        have c:=z5c b' (A+k*3) (zs.getD k z0f).kind (zs.getD k z0f).key (zs.getD k z0f).val _ d x y;rw[show actF ⟨(zs.getD k z0f).kind,(zs.getD k z0f).key,(zs.getD k z0f).val⟩=0 from hF]at c;clear HA hF d x y
        go_wp2_with (go_at_call 189;refine c.mono ?_;rintro e w' ⟨rfl,rfl⟩)
        go_round
        case rel=>exact⟨k+1,by omega,by go_num,HB⟩
        case measure=>simp[intOf];omega
      · have E:Hid (z1L zs=actF (zs.getD k z0f)):=z3u zs k HA.out z hF;have c:=z5c b' (A+k*3) (zs.getD k z0f).kind (zs.getD k z0f).key (zs.getD k z0f).val _ d x y;have I:(actF (zs.getD k z0f) !=0)=true:=by simpa using hF
        change Calls _ _ _ _ fun e w'=>e=.returned (.int .i64 (actF (zs.getD k z0f)))∧_ at c
        clear HA hF d x y;generalize actF (zs.getD k z0f)=r at c E I
        go_wp2_with (go_at_call 189;refine c.mono ?_;rintro e w' ⟨rfl,rfl⟩)
        go_ret;rw[E.out];exact⟨rfl,rfl⟩
    · have D:k=zs.length:=by omega
      subst D;have E:Hid (z1L zs=0):=z4i zs HA.out;clear HA
      go_wp2
      go_ret;rw[E.out];exact⟨rfl,rfl⟩
theorem z5Z(w:World)(x0 x1 x2 x3:Value)(t:TypeId):Box4 (w.alloc (.cells #[x0,x1,x2,x3] t)) w.heap.size 0 x0 x1 x2 x3:=⟨by simp,by simp,by simp,by simp⟩
theorem Box4.zero{w:World}{b:Nat}{x0 x1 x2 x3:Value}(h:Box4 w b 0 x0 x1 x2 x3):w.cell? ⟨b,0,none⟩=some x0∧w.cell? ⟨b,1,none⟩=some x1∧w.cell? ⟨b,2,none⟩=some x2∧w.cell? ⟨b,3,none⟩=some x3:=
 ⟨h.c0,by simpa using h.c1,by simpa using h.c2,by simpa using h.c3⟩
theorem Box4.lat{w:World}{b:Nat}{x0 x1 x2 x3:Value}(h:Box4 w b 0 x0 x1 x2 x3):(∀u:Lat w,u.val.cell? ⟨b,0,none⟩=some x0)∧(∀u:Lat w,u.val.cell? ⟨b,1,none⟩=some x1)∧(∀u:Lat w,u.val.cell? ⟨b,2,none⟩=some x2)∧(∀u:Lat w,u.val.cell? ⟨b,3,none⟩=some x3):=
 ⟨z0q h.zero.1,z0q h.zero.2.1,z0q h.zero.2.2.1,z0q h.zero.2.2.2⟩
def Blk(w:World)(b:Nat)(t:TypeId)(cs:Array Value):Prop:=w.heap[b]?=some (.cells cs t (0,0))
theorem Blk.lt{w:World}{b:Nat}{t:TypeId}{cs:Array Value}(h:Blk w b t cs):b<w.heap.size:=(Array.getElem?_eq_some_iff.1 h).1
theorem Blk.new(w:World)(t:TypeId)(cs:Array Value):Blk (w.alloc (.cells cs t)) w.heap.size t cs:=by
 show(w.heap.push _)[w.heap.size]?=_;simp
theorem Blk.below{w w':World}{b:Nat}{t:TypeId}{cs:Array Value}(h:Blk w b t cs)(hb:Below w.heap.size w w'):Blk w' b t cs:=(hb.block b h.lt).trans h
theorem Blk.grown{w w':World}{b:Nat}{t:TypeId}{cs:Array Value}{row:Option Nat}(h:Blk w b t cs)(hg:w.grownBy w' row)(hne:some b≠row):Blk w' b t cs:=(hg.block b h.lt hne).trans h
theorem Blk.cell{w:World}{b:Nat}{t:TypeId}{cs:Array Value}(h:Blk w b t cs)(j:Nat)(x:Value)(hx:cs[j]?=some x):w.cell? ⟨b,j,none⟩=some x:=by
 unfold Blk at h;simp[World.cell?,h,hx]
theorem Blk.frozen{w:World}{b:Nat}{t:TypeId}{cs:Array Value}(h:Blk w b t cs)(j:Nat):w.frozen? ⟨b,j,none⟩=false:=by
 unfold Blk at h;simp[World.frozen?,h]
theorem Blk.lat{w:World}{b:Nat}{t:TypeId}{cs:Array Value}(h:Blk w b t cs)(j:Nat)(x:Value)(hx:cs[j]?=some x):∀u:Lat w,u.val.cell? ⟨b,j,none⟩=some x:=z0q (h.cell j x hx)
structure Only (lo hi:Nat) (w w':World):Prop where
 os:w'.os=w.os
 tape:w'.tape=w.tape
 output:w'.output=w.output
 size:w.heap.size≤w'.heap.size
 block:∀k,k<w.heap.size→(k<lo∨hi≤k)→w'.heap[k]?=w.heap[k]?
theorem z2s{w w':World}{row:Option Nat}{lo hi:Nat}(hg:w.grownBy w' row)(h:∀g,row=some g→lo≤g∧g<hi):Only lo hi w w':=
 ⟨hg.os,hg.tape,hg.output,hg.size,fun k hk hc=>hg.block k hk (fun e=>by have:=h k e.symm;omega)⟩
theorem Only.refl(lo hi:Nat)(w:World):Only lo hi w w:=⟨rfl,rfl,rfl,Nat.le_refl _,fun _ _ _=>rfl⟩
theorem Only.trans{lo hi:Nat}{a b c:World}(h:Only lo hi a b)(k:Only lo hi b c):Only lo hi a c:=
 ⟨k.os.trans h.os,k.tape.trans h.tape,k.output.trans h.output,Nat.le_trans h.size k.size,fun i hi hc=>(k.block i (Nat.lt_of_lt_of_le hi h.size) hc).trans (h.block i hi hc)⟩
theorem Only.of_below{lo hi:Nat}{w w':World}(h:Below w.heap.size w w'):Only lo hi w w':=⟨h.os,h.tape,h.output,h.size,fun k hk _=>h.block k hk⟩
theorem z2L{B lo hi:Nat}{a w w':World}(h:Below B a w)(ho:Only lo hi w w')(hB:B≤lo)(hs:B≤w.heap.size):Below B a w':=
 ⟨ho.os.trans h.os,ho.tape.trans h.tape,ho.output.trans h.output,Nat.le_trans h.size ho.size,fun k hk=>(ho.block k (by omega) (Or.inl (by omega))).trans (h.block k hk)⟩
theorem z1D{w w':World}{lo hi base e size n:Nat}{v:Value}{xs:List Value}(h:w.ownsRow base e size v n xs)(ho:Only lo hi w w')(hb:hi≤base):w'.ownsRow base e size v n xs:=by
 refine⟨h.1,?_⟩;rcases h.2 with h2|⟨g,cap,cur,hv,hg,hh,r⟩
 ·exact Or.inl h2
 ·exact Or.inr ⟨g,cap,cur,hv,hg,by rw[ho.block g (Array.getElem?_eq_some_iff.1 hh).1 (Or.inr (by omega))];exact hh,r⟩
theorem z4j{w w':World}{base base' e e' n n' s s':Nat}{v v':Value}{xs xs':List Value}(h:w.ownsRow base e s v n xs)(h':w'.ownsRow base' e' s' v' n' xs')(hb:w.heap.size≤base'):v.ownBlock=none∨v.ownBlock≠v'.ownBlock:=by
 cases hv:v.ownBlock with
 |none=>exact Or.inl rfl
 |some g=>
  right;intro e;have h1:=(h.lt g hv).2;have h2:=(h'.lt g e.symm).1;omega
theorem z1E{w w':World}{base base' e e' n n' s s':Nat}{v v':Value}{xs xs':List Value}(h:w.ownsRow base e s v n xs)(h':w'.ownsRow base' e' s' v' n' xs')(hb:w.heap.size≤base'):v'.ownBlock=none∨v'.ownBlock≠v.ownBlock:=by
 rcases z4j h h' hb with e|e
 ·cases hv:v'.ownBlock with
  |none=>exact Or.inl rfl
  |some g=>right;rw[e];simp
 ·exact Or.inr (fun k=>e k.symm)
theorem z0N{w:World}{base e n b s:Nat}{v:Value}{xs:List Value}(h:w.ownsRow base e s v n xs)(hb:b<base∨w.heap.size≤b):some b≠v.ownBlock:=by
 intro e;have h1:=h.lt b e.symm;omega
theorem Blk.cel2{w:World}{b:Nat}{t:TypeId}{x0 x1:Value}{r:List Value}(h:Blk w b t (x0::x1::r).toArray):w.cell? ⟨b,0,none⟩=some x0∧w.cell? ⟨b,1,none⟩=some x1:=
 ⟨h.cell 0 _ rfl,h.cell 1 _ rfl⟩
theorem Blk.lts2{w:World}{b:Nat}{t:TypeId}{x0 x1:Value}{r:List Value}(h:Blk w b t (x0::x1::r).toArray):(∀u:Lat w,u.val.cell? ⟨b,0,none⟩=some x0)∧(∀u:Lat w,u.val.cell? ⟨b,1,none⟩=some x1):=
 ⟨h.lat 0 _ rfl,h.lat 1 _ rfl⟩
theorem Blk.frz2{w:World}{b:Nat}{t:TypeId}{cs:Array Value}(h:Blk w b t cs):w.frozen? ⟨b,0,none⟩=false∧w.frozen? ⟨b,1,none⟩=false:=
 ⟨h.frozen 0,h.frozen 1⟩
theorem Blk.cel3{w:World}{b:Nat}{t:TypeId}{x0 x1 x2:Value}{r:List Value}(h:Blk w b t (x0::x1::x2::r).toArray):w.cell? ⟨b,0,none⟩=some x0∧w.cell? ⟨b,1,none⟩=some x1∧w.cell? ⟨b,2,none⟩=some x2:=
 ⟨h.cell 0 _ rfl,h.cell 1 _ rfl,h.cell 2 _ rfl⟩
theorem Blk.frz3{w:World}{b:Nat}{t:TypeId}{cs:Array Value}(h:Blk w b t cs):w.frozen? ⟨b,0,none⟩=false∧w.frozen? ⟨b,1,none⟩=false∧w.frozen? ⟨b,2,none⟩=false:=
 ⟨h.frozen 0,h.frozen 1,h.frozen 2⟩
theorem Blk.cel4{w:World}{b:Nat}{t:TypeId}{x0 x1 x2 x3:Value}{r:List Value}(h:Blk w b t (x0::x1::x2::x3::r).toArray):w.cell? ⟨b,0,none⟩=some x0∧w.cell? ⟨b,1,none⟩=some x1∧w.cell? ⟨b,2,none⟩=some x2∧w.cell? ⟨b,3,none⟩=some x3:=
 ⟨h.cell 0 _ rfl,h.cell 1 _ rfl,h.cell 2 _ rfl,h.cell 3 _ rfl⟩
theorem Blk.lts4{w:World}{b:Nat}{t:TypeId}{x0 x1 x2 x3:Value}{r:List Value}(h:Blk w b t (x0::x1::x2::x3::r).toArray):(∀u:Lat w,u.val.cell? ⟨b,0,none⟩=some x0)∧(∀u:Lat w,u.val.cell? ⟨b,1,none⟩=some x1)∧(∀u:Lat w,u.val.cell? ⟨b,2,none⟩=some x2)∧(∀u:Lat w,u.val.cell? ⟨b,3,none⟩=some x3):=
 ⟨h.lat 0 _ rfl,h.lat 1 _ rfl,h.lat 2 _ rfl,h.lat 3 _ rfl⟩
theorem Blk.frz4{w:World}{b:Nat}{t:TypeId}{cs:Array Value}(h:Blk w b t cs):w.frozen? ⟨b,0,none⟩=false∧w.frozen? ⟨b,1,none⟩=false∧w.frozen? ⟨b,2,none⟩=false∧w.frozen? ⟨b,3,none⟩=false:=
 ⟨h.frozen 0,h.frozen 1,h.frozen 2,h.frozen 3⟩
theorem Blk.cel5{w:World}{b:Nat}{t:TypeId}{x0 x1 x2 x3 x4:Value}{r:List Value}(h:Blk w b t (x0::x1::x2::x3::x4::r).toArray):w.cell? ⟨b,0,none⟩=some x0∧w.cell? ⟨b,1,none⟩=some x1∧w.cell? ⟨b,2,none⟩=some x2∧w.cell? ⟨b,3,none⟩=some x3∧w.cell? ⟨b,4,none⟩=some x4:=
 ⟨h.cell 0 _ rfl,h.cell 1 _ rfl,h.cell 2 _ rfl,h.cell 3 _ rfl,h.cell 4 _ rfl⟩
theorem Blk.lts5{w:World}{b:Nat}{t:TypeId}{x0 x1 x2 x3 x4:Value}{r:List Value}(h:Blk w b t (x0::x1::x2::x3::x4::r).toArray):(∀u:Lat w,u.val.cell? ⟨b,0,none⟩=some x0)∧(∀u:Lat w,u.val.cell? ⟨b,1,none⟩=some x1)∧(∀u:Lat w,u.val.cell? ⟨b,2,none⟩=some x2)∧(∀u:Lat w,u.val.cell? ⟨b,3,none⟩=some x3)∧(∀u:Lat w,u.val.cell? ⟨b,4,none⟩=some x4):=
 ⟨h.lat 0 _ rfl,h.lat 1 _ rfl,h.lat 2 _ rfl,h.lat 3 _ rfl,h.lat 4 _ rfl⟩
theorem Blk.frz5{w:World}{b:Nat}{t:TypeId}{cs:Array Value}(h:Blk w b t cs):w.frozen? ⟨b,0,none⟩=false∧w.frozen? ⟨b,1,none⟩=false∧w.frozen? ⟨b,2,none⟩=false∧w.frozen? ⟨b,3,none⟩=false∧w.frozen? ⟨b,4,none⟩=false:=
 ⟨h.frozen 0,h.frozen 1,h.frozen 2,h.frozen 3,h.frozen 4⟩
theorem Blk.cel8{w:World}{b:Nat}{t:TypeId}{x0 x1 x2 x3 x4 x5 x6 x7:Value}{r:List Value}(h:Blk w b t (x0::x1::x2::x3::x4::x5::x6::x7::r).toArray):w.cell? ⟨b,0,none⟩=some x0∧w.cell? ⟨b,1,none⟩=some x1∧w.cell? ⟨b,2,none⟩=some x2∧w.cell? ⟨b,3,none⟩=some x3∧w.cell? ⟨b,4,none⟩=some x4∧w.cell? ⟨b,5,none⟩=some x5∧w.cell? ⟨b,6,none⟩=some x6∧w.cell? ⟨b,7,none⟩=some x7:=
 ⟨h.cell 0 _ rfl,h.cell 1 _ rfl,h.cell 2 _ rfl,h.cell 3 _ rfl,h.cell 4 _ rfl,h.cell 5 _ rfl,h.cell 6 _ rfl,h.cell 7 _ rfl⟩
theorem Blk.lts8{w:World}{b:Nat}{t:TypeId}{x0 x1 x2 x3 x4 x5 x6 x7:Value}{r:List Value}(h:Blk w b t (x0::x1::x2::x3::x4::x5::x6::x7::r).toArray):(∀u:Lat w,u.val.cell? ⟨b,0,none⟩=some x0)∧(∀u:Lat w,u.val.cell? ⟨b,1,none⟩=some x1)∧(∀u:Lat w,u.val.cell? ⟨b,2,none⟩=some x2)∧(∀u:Lat w,u.val.cell? ⟨b,3,none⟩=some x3)∧(∀u:Lat w,u.val.cell? ⟨b,4,none⟩=some x4)∧(∀u:Lat w,u.val.cell? ⟨b,5,none⟩=some x5)∧(∀u:Lat w,u.val.cell? ⟨b,6,none⟩=some x6)∧(∀u:Lat w,u.val.cell? ⟨b,7,none⟩=some x7):=
 ⟨h.lat 0 _ rfl,h.lat 1 _ rfl,h.lat 2 _ rfl,h.lat 3 _ rfl,h.lat 4 _ rfl,h.lat 5 _ rfl,h.lat 6 _ rfl,h.lat 7 _ rfl⟩
theorem Blk.set{w:World}{b:Nat}{t:TypeId}{cs:Array Value}(h:Blk w b t cs)(j:Nat)(x:Value):Blk (w.setCell ⟨b,j,none⟩ x) b t (cs.setIfInBounds j x):=Go.Joins.block_setCell (i:=j) (v:=x) h
theorem Blk.other{w:World}{b b':Nat}{t:TypeId}{cs:Array Value}(h:Blk w b t cs)(hne:b≠b')(j:Nat)(x:Value):Blk (w.setCell ⟨b',j,none⟩ x) b t cs:=(Below.heap_setCell w ⟨b',j,none⟩ x b hne).trans h
structure Out (F:List Nat) (w w':World):Prop where
 os:w'.os=w.os
 tape:w'.tape=w.tape
 output:w'.output=w.output
 size:w.heap.size≤w'.heap.size
 block:∀k,k<w.heap.size→k∉F→w'.heap[k]?=w.heap[k]?
theorem Out.refl(F:List Nat)(w:World):Out F w w:=⟨rfl,rfl,rfl,Nat.le_refl _,fun _ _ _=>rfl⟩
theorem Out.trans{F:List Nat}{a b c:World}(h:Out F a b)(k:Out F b c):Out F a c:=
 ⟨k.os.trans h.os,k.tape.trans h.tape,k.output.trans h.output,Nat.le_trans h.size k.size,fun i hi hn=>(k.block i (Nat.lt_of_lt_of_le hi h.size) hn).trans (h.block i hi hn)⟩
theorem Out.mono{F G:List Nat}{w w':World}(h:Out F w w')(hF:∀k∈F,k∈G):Out G w w':=⟨h.os,h.tape,h.output,h.size,fun k hk hn=>h.block k hk (fun e=>hn (hF k e))⟩
theorem Out.of_below{F:List Nat}{w w':World}(h:Below w.heap.size w w'):Out F w w':=⟨h.os,h.tape,h.output,h.size,fun k hk _=>h.block k hk⟩
theorem Out.of_grown{w w':World}{row:Option Nat}(h:w.grownBy w' row):Out row.toList w w':=⟨h.os,h.tape,h.output,h.size,fun k hk hn=>h.block k hk (fun e=>hn (by rw[←e];simp))⟩
theorem Out.setCell(w:World)(g j:Nat)(u:Value):Out [g] w (w.setCell ⟨g,j,none⟩ u):=⟨rfl,rfl,rfl,by simp,fun k _ hn=>Below.heap_setCell w _ _ k (by simpa using hn)⟩
theorem Out.keep{B:Nat}{F:List Nat}{a w w':World}(h:Below B a w)(ho:Out F w w')(hB:B≤w.heap.size)(hF:∀k∈F,B≤k):Below B a w':=
 ⟨ho.os.trans h.os,ho.tape.trans h.tape,ho.output.trans h.output,Nat.le_trans h.size ho.size,fun k hk=>(ho.block k (by omega) (fun e=>by have:=hF k e;omega)).trans (h.block k hk)⟩
def blk(v:Value):List Nat:=v.ownBlock.toList
theorem z0J{w w':World}{base e s n:Nat}{v:Value}{xs:List Value}{F:List Nat}(h:w.ownsRow base e s v n xs)(ho:Out F w w')(hd:∀k∈blk v,k∉F):w'.ownsRow base e s v n xs:=by
 refine⟨h.1,?_⟩;rcases h.2 with h2|⟨g,cap,cur,hv,hg,hh,r⟩
 ·exact Or.inl h2
 ·refine Or.inr ⟨g,cap,cur,hv,hg,?_,r⟩;rw[ho.block g (Array.getElem?_eq_some_iff.1 hh).1 (hd g (by rw[hv];simp[blk,Value.ownBlock]))];exact hh
structure Kind (P:Type) where
 ty:Nat
 size:Nat
 cells:P→List Value
 own:World→P→Prop
 rd:World→P→Prop
 foot:P→List Nat
 len:∀p,(cells p).length=size
 own_rd:∀ {w p},own w p→rd w p
 own_out:∀ {w w' p F},own w p→Out F w w'→(∀k∈foot p,k∉F)→own w' p
 own_lt:∀ {w p},own w p→∀k∈foot p,k<w.heap.size
 rd_below:∀ {w w' p},rd w p→Below w.heap.size w w'→rd w' p
section
variable {P:Type} (K:Kind P)
def Kind.row(ps:List P):List Value:=ps.flatMap K.cells
def Kind.At(w:World)(v:Value)(ps:List P):Prop:=∃a cap,v=.slice a ps.length cap∧Lies w a (K.row ps)∧∀p∈ps,K.rd w p
def Kind.Own(w:World)(v:Value)(ps:List P):Prop:=w.ownsRow 0 K.ty K.size v ps.length (K.row ps)∧∀p∈ps,K.own w p
def Kind.fp(v:Value)(ps:List P):List Nat:=blk v++ps.flatMap K.foot
end
section
variable {P:Type} {K:Kind P} {w w':World} {v:Value} {ps:List P}
theorem Kind.row_length(ps:List P):(K.row ps).length=ps.length*K.size:=by
 induction ps with
 |nil=>simp[Kind.row]
 |cons p r ih=>
  simp only[Kind.row,List.flatMap_cons,List.length_append,K.len,List.length_cons]at ih⊢;rw[ih,Nat.add_mul];omega
theorem Kind.row_get(ps:List P)(i:Nat)(hi:i<ps.length)(j:Nat)(hj:j<K.size):(K.row ps)[i*K.size+j]?=(K.cells ps[i])[j]?:=by
 induction ps generalizing i with
 |nil=>simp at hi
 |cons p r ih=>
  simp only[Kind.row,List.flatMap_cons]
  cases i with
  |zero=>
   rw[List.getElem?_append_left (by rw[K.len];omega)];simp
  |succ i=>
   rw[List.getElem?_append_right (by rw[K.len,Nat.add_mul];omega),K.len];have:=ih i (by simpa using hi);simp only[Kind.row]at this;rw[show(i+1)*K.size+j-K.size=i*K.size+j by rw[Nat.add_mul];omega,this];simp
theorem Kind.Own.at(h:K.Own w v ps):K.At w v ps:=by
 obtain⟨a,c,rfl⟩:=z0b h.1;exact⟨a,c,rfl,Lies.own h.1,fun p hp=>K.own_rd (h.2 p hp)⟩
theorem Kind.At.below(h:K.At w v ps)(hb:Below w.heap.size w w'):K.At w' v ps:=by
 obtain⟨a,c,e,hl,hr⟩:=h;exact⟨a,c,e,hl.below hb,fun p hp=>K.rd_below (hr p hp) hb⟩
theorem Kind.At.shape(h:K.At w v ps):∃a cap,v=.slice a ps.length cap:=by
 obtain⟨a,c,e,_⟩:=h;exact⟨a,c,e⟩
theorem Kind.Own.shape(h:K.Own w v ps):∃a cap,v=.slice a ps.length cap:=z0b h.1
theorem Kind.Own.out{F:List Nat}(h:K.Own w v ps)(ho:Out F w w')(hd:∀k∈K.fp v ps,k∉F):K.Own w' v ps:=by
 refine⟨z0J h.1 ho (fun k hk=>hd k (by simp[Kind.fp,hk])),fun p hp=>K.own_out (h.2 p hp) ho (fun k hk=>hd k ?_)⟩;simp only[Kind.fp,List.mem_append,List.mem_flatMap];exact Or.inr ⟨p,hp,hk⟩
theorem Kind.Own.below(h:K.Own w v ps)(hb:Below w.heap.size w w'):K.Own w' v ps:=h.out (Out.of_below (F:=[]) hb) (fun _ _=>by simp)
theorem Kind.Own.lt(h:K.Own w v ps):∀k∈K.fp v ps,k<w.heap.size:=by
 intro k hk;simp only[Kind.fp,List.mem_append,List.mem_flatMap]at hk;rcases hk with hk|⟨p,hp,hk⟩
 ·exact(h.1.lt k (by simpa[blk]using hk)).2
 ·exact K.own_lt (h.2 p hp) k hk
theorem Kind.At.cell{a:Option Addr}{n cap:Nat}(h:K.At w (.slice a n cap) ps)(hs:0<K.size)(i:Nat)(hi:i<ps.length):
  ∃b off,a=some ⟨b,off,none⟩∧b<w.heap.size∧(∀j x,(K.cells ps[i])[j]?=some x→w.cell? ⟨b,off+i*K.size+j,none⟩=some x)∧K.rd w ps[i]:=by
 obtain⟨a',c,e,hl,hr⟩:=h;simp only[Value.slice.injEq]at e;obtain⟨rfl,_,_⟩:=e;rcases hl with h0|⟨b,off,ha,hlt,hc⟩
 ·have:=Kind.row_length (K:=K) ps;rw[h0]at this;simp only[List.length_nil]at this;have h1:1*K.size≤ps.length*K.size:=Nat.mul_le_mul_right _ (by omega);omega
 ·refine⟨b,off,ha,hlt,fun j x hx=>?_,hr _ (List.getElem_mem hi)⟩;have hj:j<K.size:=by rw[←K.len ps[i]];exact(List.getElem?_eq_some_iff.1 hx).1
  rw[show off+i*K.size+j=off+(i*K.size+j) by omega];exact hc _ _ (by rw[Kind.row_get ps i hi j hj];exact hx)
theorem Kind.Own.cell{g n cap:Nat}(h:K.Own w (.slice (some ⟨g,0,none⟩) n cap) ps)(i:Nat)(hi:i<ps.length)(j:Nat)(x:Value)(hx:(K.cells ps[i])[j]?=some x):w.cell? ⟨g,i*K.size+j,none⟩=some x∧w.frozen? ⟨g,i*K.size+j,none⟩=false:=by
 obtain⟨a',c,e⟩:=h.shape;simp only[Value.slice.injEq]at e;obtain⟨_,rfl,_⟩:=e;have hj:j<K.size:=by rw[←K.len ps[i]];exact(List.getElem?_eq_some_iff.1 hx).1
 have hlt:i*K.size+j<ps.length*K.size:=by
  have:(i+1)*K.size≤ps.length*K.size:=Nat.mul_le_mul_right _ (by omega);rw[Nat.add_mul]at this;omega
 exact⟨by rw[h.1.cellAt _ hlt,Kind.row_get ps i hi j hj];exact hx,h.1.frozenAt _⟩
def z2j(xs:List Value)(o:Nat):List Value→List Value
 |[]=>xs
 |y::ys=>z2j (xs.set o y) (o+1) ys
theorem z2b(xs:List Value)(o:Nat)(ys:List Value):(z2j xs o ys).length=xs.length:=by
 induction ys generalizing xs o with
 |nil=>rfl
 |cons y ys ih=>simp[z2j,ih]
theorem z3w(xs:List Value)(o:Nat)(ys:List Value)(j:Nat)(hj:j<xs.length):(z2j xs o ys)[j]?=if o≤j∧j<o+ys.length then ys[j-o]? else xs[j]?:=by
 induction ys generalizing xs o with
 |nil=>
  rw[if_neg (by simp only[List.length_nil];omega)];rfl
 |cons y ys ih=>
  rw[z2j,ih (xs.set o y) (o+1) (by simpa using hj)];by_cases h1:o+1≤j∧j<o+1+ys.length
  ·rw[if_pos h1,if_pos (by simp;omega),show j-o=(j-(o+1))+1 by omega];simp
  ·rw[if_neg h1,List.getElem?_set];by_cases h2:o=j
   ·subst h2;rw[if_pos rfl,if_pos hj,if_pos (by simp)];simp
   ·rw[if_neg h2,if_neg (by simp;omega)]
theorem Kind.row_put(ps:List P)(i:Nat)(hi:i<ps.length)(p:P):z2j (K.row ps) (i*K.size) (K.cells p)=K.row (ps.set i p):=by
 have hl:=Kind.row_length (K:=K) ps;have hl2:=Kind.row_length (K:=K) (ps.set i p);rw[List.length_set]at hl2;have hi2:(i+1)*K.size≤ps.length*K.size:=Nat.mul_le_mul_right _ (by omega);rw[Nat.add_mul,Nat.one_mul]at hi2;apply List.ext_getElem?;intro j;by_cases hj:j<ps.length*K.size
 ·rw[z3w _ _ _ _ (by omega),K.len];have hs:0<K.size:=by
   rcases Nat.eq_zero_or_pos K.size with h0|h0
   ·rw[h0]at hj;simp at hj
   ·exact h0
  have hd:=Nat.div_add_mod j K.size;have hm:=Nat.mod_lt j hs;have hq:j / K.size<ps.length:=Nat.div_lt_of_lt_mul (by rw[Nat.mul_comm];exact hj);have e:j=j / K.size*K.size+j % K.size:=by rw[Nat.mul_comm];exact hd.symm
  have e2:=Kind.row_get (K:=K) (ps.set i p) (j / K.size) (by simpa using hq) (j % K.size) hm;rw[←e]at e2;have e3:=Kind.row_get (K:=K) ps (j / K.size) hq (j % K.size) hm;rw[←e]at e3;rw[e2,e3];by_cases hk:j / K.size=i
  ·subst hk;rw[if_pos (by omega)];simp only[List.getElem_set_self]
   congr 1
   omega
  ·have hne:¬(i*K.size≤j∧j<i*K.size+K.size):=by
    rintro⟨h1,h2⟩;apply hk;exact Nat.div_eq_of_lt_le (by omega) (by rw[Nat.add_mul];omega)
   rw[if_neg hne,List.getElem_set_ne (Ne.symm hk)]
 ·rw[List.getElem?_eq_none (by rw[z2b];omega),List.getElem?_eq_none (by omega)]
theorem Kind.row_store(ps:List P)(i:Nat)(hi:i<ps.length)(p:P)(j:Nat)(u:Value)(hc:K.cells p=(K.cells ps[i]).set j u)(hj:j<K.size):(K.row ps).set (i*K.size+j) u=K.row (ps.set i p):=by
 rw[←Kind.row_put ps i hi p,hc];have hl:=Kind.row_length (K:=K) ps;have hi2:(i+1)*K.size≤ps.length*K.size:=Nat.mul_le_mul_right _ (by omega);rw[Nat.add_mul,Nat.one_mul]at hi2;apply List.ext_getElem?;intro k;by_cases hk:k<ps.length*K.size
 ·rw[z3w _ _ _ _ (by omega),List.length_set,K.len,List.getElem?_set];by_cases h1:i*K.size+j=k
  ·subst h1;rw[if_pos rfl,if_pos (by omega),if_pos (by omega),List.getElem?_set,if_pos (by omega),if_pos (by rw[K.len];omega)]
  ·rw[if_neg h1];by_cases h2:i*K.size≤k∧k<i*K.size+K.size
   ·rw[if_pos h2,List.getElem?_set,if_neg (by omega)];have:=Kind.row_get (K:=K) ps i hi (k-i*K.size) (by omega);rw[show i*K.size+(k-i*K.size)=k by omega]at this;exact this
   ·rw[if_neg h2]
 ·rw[List.getElem?_eq_none (by simp;omega),List.getElem?_eq_none (by rw[z2b];omega)]
theorem z7H(ps:List P)(i:Nat)(hi:i<ps.length)(p:P)(hf:K.foot p=K.foot ps[i]):(ps.set i p).flatMap K.foot=ps.flatMap K.foot:=by
 induction ps generalizing i with
 |nil=>simp at hi
 |cons q r ih=>
  cases i with
  |zero=>simp only[List.set_cons_zero,List.flatMap_cons,hf,List.getElem_cons_zero]
  |succ i=>simp only[List.set_cons_succ,List.flatMap_cons,ih i (by simpa using hi) (by simpa using hf)]
theorem Kind.fp_set(v:Value)(ps:List P)(i:Nat)(hi:i<ps.length)(p:P)(hf:K.foot p=K.foot ps[i]):K.fp v (ps.set i p)=K.fp v ps:=by
 simp only[Kind.fp,z7H ps i hi p hf]
theorem z6g{ps:List P}(h:(ps.flatMap K.foot).Nodup)(i:Nat)(hi:i<ps.length)(j:Nat)(hj:j<ps.length)(hne:i≠j):∀k∈K.foot ps[j],k∉K.foot ps[i]:=by
 induction ps generalizing i j with
 |nil=>simp at hi
 |cons p r ih=>
  rw[List.flatMap_cons,List.nodup_append]at h;obtain⟨_,h2,h3⟩:=h;intro k hk hk2
  cases i with
  |zero=>
   cases j with
   |zero=>exact hne rfl
   |succ j=>
    simp only[List.getElem_cons_succ,List.getElem_cons_zero]at hk hk2;exact h3 k hk2 k (List.mem_flatMap.2 ⟨_,List.getElem_mem (by simpa using hj),hk⟩) rfl
  |succ i=>
   cases j with
   |zero=>
    simp only[List.getElem_cons_succ,List.getElem_cons_zero]at hk hk2;exact h3 k hk k (List.mem_flatMap.2 ⟨_,List.getElem_mem (by simpa using hi),hk2⟩) rfl
   |succ j=>
    simp only[List.getElem_cons_succ]at hk hk2;exact ih h2 i (by simpa using hi) j (by simpa using hj) (by omega) k hk hk2
theorem Kind.Own.store{g n cap:Nat}(h:K.Own w (.slice (some ⟨g,0,none⟩) n cap) ps)(hnd:(K.fp (.slice (some ⟨g,0,none⟩) n cap) ps).Nodup)(i:Nat)(hi:i<ps.length)(p:P)(j:Nat)(u:Value)(hj:j<K.size)
  (hc:K.cells p=(K.cells ps[i]).set j u) (hf:K.foot p=K.foot ps[i]) (hown:∀w',K.own w' ps[i]→K.own w' p):
  K.Own (w.setCell ⟨g,i*K.size+j,none⟩ u) (.slice (some ⟨g,0,none⟩) n cap) (ps.set i p)∧K.fp (.slice (some ⟨g,0,none⟩) n cap) (ps.set i p)=K.fp (.slice (some ⟨g,0,none⟩) n cap) ps:=by
 obtain⟨a',c,e⟩:=h.shape;simp only[Value.slice.injEq]at e;obtain⟨_,rfl,_⟩:=e;refine⟨⟨?_,?_⟩,Kind.fp_set _ ps i hi p hf⟩
 ·have h1:=(h.1.stored (i*K.size+j) u).1;rw[Kind.row_store ps i hi p j u hc hj]at h1;rw[List.length_set];exact h1
 ·have hg:∀q∈ps,∀k∈K.foot q,k∉[g]:=by
   intro q hq k hk;simp only[Kind.fp,blk,Value.ownBlock,Option.toList,List.cons_append,List.nil_append,List.nodup_cons]at hnd;simp only[List.mem_singleton];rintro rfl;exact hnd.1 (List.mem_flatMap.2 ⟨q,hq,hk⟩)
  have hall:∀q∈ps,K.own (w.setCell ⟨g,i*K.size+j,none⟩ u) q:=fun q hq=>K.own_out (h.2 q hq) (Out.setCell w g _ u) (hg q hq)
  intro q hq;rcases List.mem_or_eq_of_mem_set hq with hq|rfl
  ·exact hall q hq
  ·exact hown _ (hall _ (List.getElem_mem hi))
theorem Kind.Own.turn(h:K.Own w v ps)(z:(K.fp v ps).Nodup)(i:Nat)(hi:i<ps.length)(p:P){F:List Nat}(ho:Out F w w')(hF:∀k∈F,k∈K.foot ps[i])
  (hc:K.cells p=K.cells ps[i]) (hf:K.foot p=K.foot ps[i]) (y:K.own w' p):K.Own w' v (ps.set i p)∧K.fp v (ps.set i p)=K.fp v ps:=by
 have c:=z;simp only[Kind.fp]at c;rw[List.nodup_append]at c;refine⟨⟨?_,?_⟩,Kind.fp_set _ ps i hi p hf⟩
 ·have e:K.row (ps.set i p)=K.row ps:=by
   rw[←Kind.row_put ps i hi p,hc,Kind.row_put ps i hi ps[i],List.set_getElem_self]
  rw[e,List.length_set];refine z0J h.1 ho (fun k hk x=>?_);exact c.2.2 k hk k (List.mem_flatMap.2 ⟨ps[i],List.getElem_mem hi,hF k x⟩) rfl
 ·intro q hq;obtain⟨j,hj,rfl⟩:=List.getElem_of_mem hq;rw[List.length_set]at hj;by_cases d:i=j
  ·subst d;rw[List.getElem_set_self];exact y
  ·rw[List.getElem_set_ne d];exact K.own_out (h.2 _ (List.getElem_mem hj)) ho (fun k hk x=>z6g c.2.1 i hi j hj d k hk (hF k x))
theorem Kind.Own.put{g n cap:Nat}(h:K.Own w (.slice (some ⟨g,0,none⟩) n cap) ps)(i:Nat)(hi:i<ps.length)(p:P)(hrow:w'.ownsRow 0 K.ty K.size (.slice (some ⟨g,0,none⟩) n cap) ps.length (z2j (K.row ps) (i*K.size) (K.cells p)))
  (ho:Out [g] w w') (hg:∀q∈ps,∀k∈K.foot q,k≠g) (hown:K.own w p) (hp:∀k∈K.foot p,k≠g):K.Own w' (.slice (some ⟨g,0,none⟩) n cap) (ps.set i p):=by
 rw[Kind.row_put ps i hi p]at hrow;refine⟨by rw[List.length_set];exact hrow,fun q hq=>?_⟩;rcases List.mem_or_eq_of_mem_set hq with hq|rfl
 ·exact K.own_out (h.2 q hq) ho (fun k hk=>by simpa using hg q hq k hk)
 ·exact K.own_out hown ho (fun k hk=>by simpa using hp k hk)
def nmL(nm:P→Nat)(ps:List P):Nat:=(ps.map nm).sum
theorem z7I(nm:P→Nat)(ps:List P)(k:Nat)(h:k<ps.length):nmL nm (ps.take (k+1))=nmL nm (ps.take k)+nm ps[k]:=by
 rw[List.take_succ_eq_append_getElem h];simp only[nmL,List.map_append,List.map_cons,List.map_nil,List.sum_append,List.sum_cons,List.sum_nil,Nat.add_zero]
theorem z78(nm:P→Nat)(ps:List P)(k:Nat):nmL nm (ps.take k)≤nmL nm ps:=by
 have e:nmL nm ps=nmL nm (ps.take k)+nmL nm (ps.drop k):=by
  conv=>lhs;rw[←List.take_append_drop k ps]
  simp only[nmL,List.map_append,List.sum_append]
 omega
end
section
variable {P:Type} {K:Kind P} {w w':World} {v:Value} {ps:List P}
theorem z7J(z:P)(n:Nat)(hs:0<K.size):(madeCells (K.cells z).toArray (n*K.size)).toList=K.row (List.replicate n z):=by
 have hl:=Kind.row_length (K:=K) (List.replicate n z);rw[List.length_replicate]at hl;apply List.ext_getElem?;intro j;by_cases hj:j<n*K.size
 ·have hm:=Nat.mod_lt j hs;have hq:j / K.size<n:=Nat.div_lt_of_lt_mul (by rw[Nat.mul_comm];exact hj);have e:j=j / K.size*K.size+j % K.size:=by rw[Nat.mul_comm];exact(Nat.div_add_mod j K.size).symm
  have e2:=Kind.row_get (K:=K) (List.replicate n z) (j / K.size) (by simpa using hq) (j % K.size) hm;rw[←e]at e2;rw[e2];have hz:(K.cells z).length=K.size:=K.len z;simp only[madeCells,Array.toList_map,Array.toList_range,List.getElem?_map,List.getElem?_range hj,Option.map_some,List.size_toArray,hz,List.getElem_replicate];rw[List.getElem!_toArray,List.getElem?_eq_getElem (by omega),getElem!_pos (K.cells z) (j % K.size) (by omega)]
 ·rw[List.getElem?_eq_none (by simp[size_madeCells];omega),List.getElem?_eq_none (by omega)]
theorem z8T{z:P}{n g cap:Nat}(hz:K.foot z=[]):K.fp (.slice (some ⟨g,0,none⟩) n cap) (List.replicate n z)=[g]:=by
 have:(List.replicate n z).flatMap K.foot=[]:=by
  rw[List.flatMap_eq_nil_iff];intro x hx;rw[(List.mem_replicate.1 hx).2,hz]
 simp[Kind.fp,blk,Value.ownBlock,this]
end
theorem Out.set{F:List Nat}{w W:World}{b j:Nat}{u:Value}(h:Out F w W)(hb:b∈F):Out F w (W.setCell ⟨b,j,none⟩ u):=h.trans ((Out.setCell W b j u).mono (fun k hk=>by simp only[List.mem_singleton]at hk;rw[hk];exact hb))
theorem Out.call{F:List Nat}{w W W':World}(h:Out F w W)(hb:Below W.heap.size W W'):Out F w W':=h.trans (Out.of_below hb)
theorem Below.call{B:Nat}{w W W':World}(h:Below B w W)(hs:B≤W.heap.size)(hb:Below W.heap.size W W'):Below B w W':=h.trans (hb.mono hs)
structure TxnD where
 id:Int
 session:Int
 seq:Int
 acts:List ActD
def z0n:TxnD:=⟨0,0,0,[]⟩
structure TxnP where
 d:TxnD
 a:Option Addr
 cap:Nat
def TxnP.sl(p:TxnP):Value:=.slice p.a p.d.acts.length p.cap
def TxnP.cells(p:TxnP):List Value:=[.int .i64 p.d.id,.int .i64 p.d.session,.int .i64 p.d.seq,p.sl]
def z0v(ps:List TxnP):List Value:=ps.flatMap TxnP.cells
def z1P:TxnP:=⟨z0n,none,0⟩
theorem z3x(ps:List TxnP):(z0v ps).length=ps.length*4:=by
 induction ps with
 |nil=>rfl
 |cons x xs ih=>simp only[z0v,List.flatMap_cons,List.length_append,List.length_cons]at ih⊢;rw[ih];simp[TxnP.cells];omega
theorem z5d(ps:List TxnP):∀ (i:Nat),i<ps.length→(z0v ps)[i*4]?=some (.int .i64 (ps.getD i z1P).d.id)∧(z0v ps)[i*4+1]?=some (.int .i64 (ps.getD i z1P).d.session)∧(z0v ps)[i*4+2]?=some (.int .i64 (ps.getD i z1P).d.seq)∧(z0v ps)[i*4+3]?=some (ps.getD i z1P).sl:=by
 induction ps with
 |nil=>intro i h;simp at h
 |cons x xs ih=>
  intro i h
  cases i with
  |zero=>simp[z0v,TxnP.cells]
  |succ i=>
   have e:z0v (x::xs)=x.cells++z0v xs:=rfl;have hl:x.cells.length=4:=rfl;obtain⟨h1,h2,h3,h4⟩:=ih i (by simpa using h);rw[e,List.getElem?_append_right (by omega),List.getElem?_append_right (by omega),List.getElem?_append_right (by omega),List.getElem?_append_right (by omega),hl,show(i+1)*4-4=i*4 by omega,show(i+1)*4+1-4=i*4+1 by omega,show(i+1)*4+2-4=i*4+2 by omega,show(i+1)*4+3-4=i*4+3 by omega];simpa[List.getD]using⟨h1,h2,h3,h4⟩
def TxnsAt(w:World)(v:Value)(ds:List TxnD):Prop:=
 ∃a cap ps,v=.slice a ds.length cap∧ps.map TxnP.d=ds∧Lies w a (z0v ps)∧∀p∈ps,ActRow w p.a p.d.acts
theorem TxnsAt.below{w w':World}{v:Value}{ds:List TxnD}(h:TxnsAt w v ds)(hb:Below w.heap.size w w'):TxnsAt w' v ds:=by
 obtain⟨a,cap,ps,e,hd,hL,hA⟩:=h;exact⟨a,cap,ps,e,hd,hL.below hb,fun p hp=>(hA p hp).below hb⟩
theorem TxnsAt.shape{w:World}{v:Value}{ds:List TxnD}(h:TxnsAt w v ds):∃a cap,v=.slice a ds.length cap:=by
 obtain⟨a,cap,_,e,_⟩:=h;exact⟨a,cap,e⟩
theorem TxnsAt.at{w:World}{a:Option Addr}{n cap:Nat}{ds:List TxnD}(h:TxnsAt w (.slice a n cap) ds)(i:Nat)(hi:i<ds.length):
  ∃b off aa cc,a=some ⟨b,off,none⟩∧b<w.heap.size∧w.cell? ⟨b,off+i*4,none⟩=some (.int .i64 (ds.getD i z0n).id)∧w.cell? ⟨b,off+i*4+1,none⟩=some (.int .i64 (ds.getD i z0n).session)∧w.cell? ⟨b,off+i*4+2,none⟩=some (.int .i64 (ds.getD i z0n).seq)∧
   w.cell? ⟨b,off+i*4+3,none⟩=some (.slice aa (ds.getD i z0n).acts.length cc)∧ActRow w aa (ds.getD i z0n).acts:=by
 obtain⟨a',cap',ps,e,hd,hL,hA⟩:=h;simp only[Value.slice.injEq]at e;obtain⟨rfl,_,_⟩:=e;have hl:ps.length=ds.length:=by rw[←hd];simp
 obtain⟨h1,h2,h3,h4⟩:=z5d ps i (by omega);have hp:(ps.getD i z1P).d=ds.getD i z0n:=by
  rw[←hd];simp[List.getD,show i<ps.length by omega]
 have hm:ps.getD i z1P∈ps:=by simp[List.getD,show i<ps.length by omega]
 rcases hL with h|⟨b,off,ha,hlt,hc⟩
 ·have:=z3x ps;rw[h]at this;simp at this;omega
 ·have hAA:=hA _ hm;rw[hp]at hAA h1 h2 h3;refine⟨b,off,(ps.getD i z1P).a,(ps.getD i z1P).cap,ha,hlt,hc _ _ h1,by rw[Nat.add_assoc];exact hc _ _ h2,by rw[Nat.add_assoc];exact hc _ _ h3,?_,hAA⟩;rw[Nat.add_assoc,hc _ _ h4];simp only[TxnP.sl,hp]
def OwnTxns(lo hi:Nat)(w:World)(v:Value)(ds:List TxnD):Prop:=
 ∃g cap ps,v=.slice (some ⟨g,0,none⟩) ds.length cap∧g<hi∧ps.map TxnP.d=ds∧w.ownsRow lo 44 4 (.slice (some ⟨g,0,none⟩) ds.length cap) ds.length (z0v ps)∧
  ∀p∈ps,w.ownsRow lo 163 3 p.sl p.d.acts.length (z0i p.d.acts)∧∀k,p.sl.ownBlock=some k→k<hi∧k≠g
theorem OwnTxns.row{lo hi:Nat}{w:World}{v:Value}{ds:List TxnD}(h:OwnTxns lo hi w v ds):TxnsAt w v ds:=by
 obtain⟨g,cap,ps,e,_,hd,ho,hp⟩:=h;exact⟨_,cap,ps,e,hd,Lies.own ho,fun p hm=>Lies.own (hp p hm).1⟩
theorem OwnTxns.below{lo hi:Nat}{w w':World}{v:Value}{ds:List TxnD}(h:OwnTxns lo hi w v ds)(hb:Below w.heap.size w w'):OwnTxns lo hi w' v ds:=by
 obtain⟨g,cap,ps,e,hg,hd,ho,hp⟩:=h;exact⟨g,cap,ps,e,hg,hd,z0a ho hb,fun p hm=>⟨z0a (hp p hm).1 hb,(hp p hm).2⟩⟩
def z49(ds:List TxnD):Nat:=(ds.map (fun d=>d.acts.length)).sum
theorem z05{ds:List TxnD}{d:TxnD}(h:d∈ds):d.acts.length≤z49 ds:=by
 induction ds with
 |nil=>simp at h
 |cons x r ih=>
  simp only[z49,List.map_cons,List.sum_cons]at ih⊢;rcases List.mem_cons.1 h with rfl|h
  ·omega
  ·have:=ih h;omega
theorem z0O:(Tryz.prog.info? 44).map (fun i=>(i.zero,i.size,i.bytes))=some (some (.agg #[.int .i64 0,.int .i64 0,.int .i64 0,.slice none 0 0]),4,48):=by kernel_rfl
theorem z0g{w:World}{base e n s g j:Nat}{v u:Value}{xs:List Value}(h:w.ownsRow base e s v n xs)(hne:∀k,v.ownBlock=some k→k≠g):(w.setCell ⟨g,j,none⟩ u).ownsRow base e s v n xs:=by
 refine⟨h.1,?_⟩;rcases h.2 with h2|⟨g',cap,cur,hv,hg,hh,r⟩
 ·exact Or.inl h2
 ·exact Or.inr ⟨g',cap,cur,hv,hg,by rw[Below.heap_setCell _ _ _ _ (by have:=hne g' (by rw[hv];rfl);omega)];exact hh,r⟩
def intK:Kind Int where
 ty:=2
 size:=1
 cells n:=[.int .i64 n]
 own _ _:=True
 rd _ _:=True
 foot _:=[]
 len _:=rfl
 own_rd _:=trivial
 own_out _ _ _:=trivial
 own_lt _ k hk:=by simp at hk
 rd_below _ _:=trivial
def actK:Kind ActD where
 ty:=163
 size:=3
 cells:=ActD.cells
 own _ _:=True
 rd _ _:=True
 foot _:=[]
 len _:=rfl
 own_rd _:=trivial
 own_out _ _ _:=trivial
 own_lt _ k hk:=by simp at hk
 rd_below _ _:=trivial
structure TxnQ where
 i:Int
 s:Int
 q:Int
 va:Value
 acts:List ActD
def txnK:Kind TxnQ where
 ty:=44
 size:=4
 cells p:=[.int .i64 p.i,.int .i64 p.s,.int .i64 p.q,p.va]
 own w p:=actK.Own w p.va p.acts
 rd w p:=actK.At w p.va p.acts
 foot p:=actK.fp p.va p.acts
 len _:=rfl
 own_rd h:=h.at
 own_out h ho hd:=h.out ho hd
 own_lt h:=h.lt
 rd_below h hb:=h.below hb
def TxnQ.e(p:TxnQ):TxnD:=⟨p.i,p.s,p.q,p.acts⟩
def TxnD.n(d:TxnD):Nat:=d.acts.length
def z89(ds:List TxnD):Nat:=ds.length+nmL TxnD.n ds
structure RoundQ where
 vr:Value
 rep:List Int
 vp:Value
 pro:List Int
def roundK:Kind RoundQ where
 ty:=172
 size:=2
 cells p:=[p.vr,p.vp]
 own w p:=intK.Own w p.vr p.rep∧intK.Own w p.vp p.pro
 rd w p:=intK.At w p.vr p.rep∧intK.At w p.vp p.pro
 foot p:=intK.fp p.vr p.rep++intK.fp p.vp p.pro
 len _:=rfl
 own_rd h:=⟨h.1.at,h.2.at⟩
 own_out h ho hd:=⟨h.1.out ho (fun k hk=>hd k (List.mem_append_left _ hk)),h.2.out ho (fun k hk=>hd k (List.mem_append_right _ hk))⟩
 own_lt h k hk:=by
  rcases List.mem_append.1 hk with hk|hk
  ·exact h.1.lt k hk
  ·exact h.2.lt k hk
 rd_below h hb:=⟨h.1.below hb,h.2.below hb⟩
structure InstQ where
 has:Bool
 vb:Value
 batch:List TxnQ
 vr:Value
 rounds:List RoundQ
 vd:Value
 dec:List Int
def instK:Kind InstQ where
 ty:=49
 size:=4
 cells p:=[.bool p.has,p.vb,p.vr,p.vd]
 own w p:=txnK.Own w p.vb p.batch∧roundK.Own w p.vr p.rounds∧intK.Own w p.vd p.dec
 rd w p:=txnK.At w p.vb p.batch∧roundK.At w p.vr p.rounds∧intK.At w p.vd p.dec
 foot p:=txnK.fp p.vb p.batch++(roundK.fp p.vr p.rounds++intK.fp p.vd p.dec)
 len _:=rfl
 own_rd h:=⟨h.1.at,h.2.1.at,h.2.2.at⟩
 own_out h ho hd:=⟨h.1.out ho (fun k hk=>hd k (List.mem_append_left _ hk)),h.2.1.out ho (fun k hk=>hd k (List.mem_append_right _ (List.mem_append_left _ hk))),h.2.2.out ho (fun k hk=>hd k (List.mem_append_right _ (List.mem_append_right _ hk)))⟩
 own_lt h k hk:=by
  rcases List.mem_append.1 hk with hk|hk
  ·exact h.1.lt k hk
  ·rcases List.mem_append.1 hk with hk|hk
   ·exact h.2.1.lt k hk
   ·exact h.2.2.lt k hk
 rd_below h hb:=⟨h.1.below hb,h.2.1.below hb,h.2.2.below hb⟩
structure RoundE where
 rep:List Int
 pro:List Int
structure InstE where
 has:Bool
 batch:List TxnD
 rounds:List RoundE
 dec:List Int
def RoundQ.e(p:RoundQ):RoundE:=⟨p.rep,p.pro⟩
def InstQ.e(p:InstQ):InstE:=⟨p.has,p.batch.map TxnQ.e,p.rounds.map RoundQ.e,p.dec⟩
def RoundE.n(d:RoundE):Nat:=d.rep.length+d.pro.length
def z8m(ds:List RoundE):Nat:=ds.length+nmL RoundE.n ds
def InstE.n(d:InstE):Nat:=z89 d.batch+z8m d.rounds+d.dec.length
theorem z0K{w:World}{a:Option Addr}{n cap:Nat}{zs:List ActD}(h:actK.At w (.slice a n cap) zs):n=zs.length∧ActRow w a zs:=by
 obtain⟨a',c,e,hl,_⟩:=h;simp only[Value.slice.injEq]at e;obtain⟨rfl,rfl,_⟩:=e;exact⟨rfl,hl⟩
theorem z0Y(v:Value)(zs:List ActD):actK.fp v zs=blk v:=by
 have:zs.flatMap actK.foot=[]:=by rw[List.flatMap_eq_nil_iff];intro _ _;rfl
 simp[Kind.fp,this]
theorem z0D(v:Value):(blk v).Nodup:=by unfold blk;cases v.ownBlock<;>simp
theorem z0y{w:World}{base e s n:Nat}{v:Value}{xs:List Value}(h:w.ownsRow base e s v n xs):w.ownsRow 0 e s v n xs∧∀k∈blk v,base≤k:=⟨z0m h (Nat.zero_le _),fun k hk=>(h.lt k (by simpa[blk]using hk)).1⟩
theorem z2t{P:Type}(nm:P→Nat)(ps:List P)(k:Nat)(h:k<ps.length):nm ps[k]≤nmL nm ps:=by
 have h1:=z7I nm ps k h;have h2:=z78 nm ps (k+1);omega
def TxnQ.n(p:TxnQ):Nat:=p.acts.length
def TxnQ.wf(p:TxnQ):Prop:=p.acts.length≤9223372036854775807
def RoundQ.n(p:RoundQ):Nat:=p.rep.length+p.pro.length
def RoundQ.wf(p:RoundQ):Prop:=p.rep.length≤9223372036854775807∧p.pro.length≤9223372036854775807
def InstQ.n(p:InstQ):Nat:=(p.batch.length+nmL TxnQ.n p.batch)+(p.rounds.length+nmL RoundQ.n p.rounds)+p.dec.length
def InstQ.wf(p:InstQ):Prop:=(p.batch.length≤9223372036854775807∧∀q∈p.batch,TxnQ.wf q)∧(p.rounds.length≤9223372036854775807∧∀q∈p.rounds,RoundQ.wf q)∧p.dec.length≤9223372036854775807
structure ItemD where
 key:Int
 val:Int
deriving DecidableEq
def z0c:ItemD:=⟨0,0⟩
def ItemD.cells(x:ItemD):List Value:=[.int .i64 x.key,.int .i64 x.val]
def z0d(xs:List ItemD):List Value:=xs.flatMap ItemD.cells
def ItemRow(w:World)(a:Option Addr)(xs:List ItemD):Prop:=Lies w a (z0d xs)
theorem z1a(xs:List ItemD):(z0d xs).length=xs.length*2:=by
 induction xs with
 |nil=>rfl
 |cons x xs ih=>simp only[z0d,List.flatMap_cons,List.length_append,List.length_cons]at ih⊢;rw[ih];simp[ItemD.cells];omega
theorem z4B(xs:List ItemD):∀ (i:Nat),i<xs.length→(z0d xs)[i*2]?=some (.int .i64 (xs.getD i z0c).key)∧(z0d xs)[i*2+1]?=some (.int .i64 (xs.getD i z0c).val):=by
 induction xs with
 |nil=>intro i h;simp at h
 |cons x xs ih=>
  intro i h
  cases i with
  |zero=>simp[z0d,ItemD.cells]
  |succ i=>
   have e:z0d (x::xs)=x.cells++z0d xs:=rfl;have hl:x.cells.length=2:=rfl;obtain⟨h1,h2⟩:=ih i (by simpa using h);rw[e,List.getElem?_append_right (by omega),List.getElem?_append_right (by omega),hl,show(i+1)*2-2=i*2 by omega,show(i+1)*2+1-2=i*2+1 by omega];simpa[List.getD]using⟨h1,h2⟩
theorem ItemRow.below{w w':World}{a:Option Addr}{xs:List ItemD}(h:ItemRow w a xs)(hb:Below w.heap.size w w'):ItemRow w' a xs:=Lies.below h hb
theorem ItemRow.at{w:World}{a:Option Addr}{xs:List ItemD}(h:ItemRow w a xs)(i:Nat)(hi:i<xs.length):
  ∃b off,a=some ⟨b,off,none⟩∧b<w.heap.size∧w.cell? ⟨b,off+i*2,none⟩=some (.int .i64 (xs.getD i z0c).key)∧w.cell? ⟨b,off+i*2+1,none⟩=some (.int .i64 (xs.getD i z0c).val):=by
 obtain⟨h1,h2⟩:=z4B xs i hi;rcases h with h|⟨b,off,ha,hlt,hc⟩
 ·have:=z1a xs;rw[h]at this;simp at this;omega
 ·exact⟨b,off,ha,hlt,hc _ _ h1,by rw[Nat.add_assoc];exact hc _ _ h2⟩
theorem z1n:(Tryz.prog.info? 135).map (fun i=>(i.zero,i.size,i.bytes))=some (some (.agg #[.int .i64 0,.int .i64 0]),2,16):=by kernel_rfl
def z5e(c:Int)(n:Nat):List ItemD:=(List.range n).map fun(i:Nat)=>⟨c+((i*2:Nat):Int),c+((i*2+1:Nat):Int)⟩
structure UndoD where
 key:Int
 was:Bool
 val:Int
deriving DecidableEq
def z0j:UndoD:=⟨0,false,0⟩
def UndoD.cells(x:UndoD):List Value:=[.int .i64 x.key,.bool x.was,.int .i64 x.val]
def z0p(xs:List UndoD):List Value:=xs.flatMap UndoD.cells
def UndoRow(w:World)(a:Option Addr)(xs:List UndoD):Prop:=Lies w a (z0p xs)
theorem z3h(xs:List UndoD):(z0p xs).length=xs.length*3:=by
 induction xs with
 |nil=>rfl
 |cons x xs ih=>simp only[z0p,List.flatMap_cons,List.length_append,List.length_cons]at ih⊢;rw[ih];simp[UndoD.cells];omega
theorem z4C(xs:List UndoD):∀ (i:Nat),i<xs.length→(z0p xs)[i*3]?=some (.int .i64 (xs.getD i z0j).key)∧(z0p xs)[i*3+1]?=some (.bool (xs.getD i z0j).was)∧(z0p xs)[i*3+2]?=some (.int .i64 (xs.getD i z0j).val):=by
 induction xs with
 |nil=>intro i h;simp at h
 |cons x xs ih=>
  intro i h
  cases i with
  |zero=>simp[z0p,UndoD.cells]
  |succ i=>
   have e:z0p (x::xs)=x.cells++z0p xs:=rfl;have hl:x.cells.length=3:=rfl;obtain⟨h1,h2,h3⟩:=ih i (by simpa using h);rw[e,List.getElem?_append_right (by omega),List.getElem?_append_right (by omega),List.getElem?_append_right (by omega),hl,show(i+1)*3-3=i*3 by omega,show(i+1)*3+1-3=i*3+1 by omega,show(i+1)*3+2-3=i*3+2 by omega];simpa[List.getD]using⟨h1,h2,h3⟩
theorem UndoRow.below{w w':World}{a:Option Addr}{xs:List UndoD}(h:UndoRow w a xs)(hb:Below w.heap.size w w'):UndoRow w' a xs:=Lies.below h hb
theorem UndoRow.at{w:World}{a:Option Addr}{xs:List UndoD}(h:UndoRow w a xs)(i:Nat)(hi:i<xs.length):
  ∃b off,a=some ⟨b,off,none⟩∧b<w.heap.size∧w.cell? ⟨b,off+i*3,none⟩=some (.int .i64 (xs.getD i z0j).key)∧w.cell? ⟨b,off+i*3+1,none⟩=some (.bool (xs.getD i z0j).was)∧w.cell? ⟨b,off+i*3+2,none⟩=some (.int .i64 (xs.getD i z0j).val):=by
 obtain⟨h1,h2,h3⟩:=z4C xs i hi;rcases h with h|⟨b,off,ha,hlt,hc⟩
 ·have:=z3h xs;rw[h]at this;simp at this;omega
 ·exact⟨b,off,ha,hlt,hc _ _ h1,by rw[Nat.add_assoc];exact hc _ _ h2,by rw[Nat.add_assoc];exact hc _ _ h3⟩
theorem z3o:(Tryz.prog.info? 208).map (fun i=>(i.zero,i.size,i.bytes))=some (some (.agg #[.int .i64 0,.bool false,.int .i64 0]),3,24):=by kernel_rfl
def z6P(c:Int)(n:Nat):List UndoD:=(List.range n).map fun(i:Nat)=>⟨c+((i*3:Nat):Int),((c+((i*3+1:Nat):Int)) % 3==0),c+((i*3+2:Nat):Int)⟩
def itemK:Kind ItemD where
 ty:=135
 size:=2
 cells:=ItemD.cells
 own _ _:=True
 rd _ _:=True
 foot _:=[]
 len _:=rfl
 own_rd _:=trivial
 own_out _ _ _:=trivial
 own_lt _ k hk:=by simp at hk
 rd_below _ _:=trivial
theorem z3y(zs:List ItemD):itemK.row zs=z0d zs:=rfl
theorem z07{w:World}{a:Option Addr}{n cap:Nat}{zs:List ItemD}(h:itemK.At w (.slice a n cap) zs):n=zs.length∧ItemRow w a zs:=by
 obtain⟨a',c,e,hl,_⟩:=h;simp only[Value.slice.injEq]at e;obtain⟨rfl,rfl,_⟩:=e;exact⟨rfl,hl⟩
theorem z0s(v:Value)(zs:List ItemD):itemK.fp v zs=blk v:=by
 have:zs.flatMap itemK.foot=[]:=by simp[show∀z,itemK.foot z=[]from fun _=>rfl]
 simp[Kind.fp,this]
def undoK:Kind UndoD where
 ty:=208
 size:=3
 cells:=UndoD.cells
 own _ _:=True
 rd _ _:=True
 foot _:=[]
 len _:=rfl
 own_rd _:=trivial
 own_out _ _ _:=trivial
 own_lt _ k hk:=by simp at hk
 rd_below _ _:=trivial
theorem z6Q(zs:List UndoD):undoK.row zs=z0p zs:=rfl
theorem z3p{w:World}{a:Option Addr}{n cap:Nat}{zs:List UndoD}(h:undoK.At w (.slice a n cap) zs):n=zs.length∧UndoRow w a zs:=by
 obtain⟨a',c,e,hl,_⟩:=h;simp only[Value.slice.injEq]at e;obtain⟨rfl,rfl,_⟩:=e;exact⟨rfl,hl⟩
theorem z0S(v:Value)(zs:List UndoD):undoK.fp v zs=blk v:=by
 have:zs.flatMap undoK.foot=[]:=by simp[show∀z,undoK.foot z=[]from fun _=>rfl]
 simp[Kind.fp,this]
structure USQ where
 va:Value
 us:List UndoD
def ussK:Kind USQ where
 ty:=137
 size:=1
 cells p:=[p.va]
 own w p:=undoK.Own w p.va p.us
 rd w p:=undoK.At w p.va p.us
 foot p:=undoK.fp p.va p.us
 len _:=rfl
 own_rd h:=h.at
 own_out h ho hd:=h.out ho hd
 own_lt h:=h.lt
 rd_below h hb:=h.below hb
def USQ.e(p:USQ):List UndoD:=p.us
def USQ.n(p:USQ):Nat:=p.us.length
def USQ.wf(p:USQ):Prop:=p.us.length≤9223372036854775807
theorem z4k:(Tryz.prog.info? 137).map (fun i=>(i.zero,i.size,i.bytes))=some (some (.slice none 0 0),1,24):=by kernel_rfl
section
variable {P:Type} {K:Kind P} {w w':World} {v v':Value} {ps:List P} {p:P} {B:Nat}
theorem Kind.row_snoc(ps:List P)(p:P):K.row (ps++[p])=K.row ps++K.cells p:=by simp[Kind.row]
theorem Kind.Own.snoc(h:K.Own w v ps)(L:(K.fp v ps).Nodup)(C:∀k∈K.fp v ps,B≤k)(hp:K.own w p)(M:(K.foot p).Nodup)(z:∀k∈K.foot p,k∉K.fp v ps)(D:∀k∈K.foot p,B≤k)(hB:B≤w.heap.size)
  (I:w'.ownsRow 0 K.ty K.size v' (ps.length+1) (K.row ps++K.cells p)) (hg:w.grownBy w' v.ownBlock) (c:v'.ownBlock=v.ownBlock∨v'.ownBlock=some w.heap.size):
  K.Own w' v' (ps++[p])∧(K.fp v' (ps++[p])).Nodup∧(∀k∈K.fp v' (ps++[p]),B≤k)∧Out (blk v) w w':=by
 have hO:Out (blk v) w w':=Out.of_grown hg;have d:=List.nodup_append.1 L;have J:=h.lt;have E:=K.own_lt hp;have A:(ps++[p]).flatMap K.foot=ps.flatMap K.foot++K.foot p:=by simp
 refine⟨⟨?_,?_⟩,?_,?_,hO⟩
 ·rw[List.length_append,List.length_singleton,Kind.row_snoc];exact I
 ·intro q hq;rcases List.mem_append.1 hq with hq|hq
  ·exact K.own_out (h.2 q hq) hO (fun k hk y=>d.2.2 k y k (List.mem_flatMap.2 ⟨q,hq,hk⟩) rfl)
  ·simp only[List.mem_singleton]at hq;subst hq;exact K.own_out hp hO (fun k hk y=>z k hk (by simp only[Kind.fp,List.mem_append];exact Or.inl y))
 ·unfold Kind.fp;rw[A];have x:(ps.flatMap K.foot++K.foot p).Nodup:=List.nodup_append.2 ⟨d.2.1,M,fun a ha b hb e=>z b hb (by simp only[Kind.fp,List.mem_append];exact Or.inr (e▸ha))⟩;rcases c with c|c
  ·have e:blk v'=blk v:=by unfold blk;rw[c]
   rw[e];refine List.nodup_append.2 ⟨d.1,x,fun a ha b hb e=>?_⟩;subst e;rcases List.mem_append.1 hb with hb|hb
   ·exact d.2.2 a ha a hb rfl
   ·exact z a hb (by simp only[Kind.fp,List.mem_append];exact Or.inl ha)
  ·have e:blk v'=[w.heap.size]:=by unfold blk;rw[c];rfl
   rw[e];refine List.nodup_append.2 ⟨by simp,x,fun a ha b hb e=>?_⟩;simp only[List.mem_singleton]at ha;subst e ha;rcases List.mem_append.1 hb with hb|hb
   ·have:=J _ (show w.heap.size∈K.fp v ps by simp only[Kind.fp,List.mem_append];exact Or.inr hb);omega
   ·have:=E _ hb;omega
 ·intro k hk;unfold Kind.fp at hk;rw[A]at hk;rcases List.mem_append.1 hk with hk|hk
  ·rcases c with c|c
   ·exact C k (by simp only[Kind.fp,List.mem_append];left;unfold blk at hk⊢;rw[c]at hk;exact hk)
   ·unfold blk at hk;rw[c]at hk;simp only[Option.toList,List.mem_singleton]at hk;omega
  ·rcases List.mem_append.1 hk with hk|hk
   ·exact C k (by simp only[Kind.fp,List.mem_append];exact Or.inr hk)
   ·exact D k hk
theorem Kind.own_nil(w:World):K.Own w (.slice none 0 0) ([]:List P)∧(K.fp (.slice none 0 0) ([]:List P))=[]:=⟨⟨World.ownsRow_nil _ _ _ _,fun p hp=>by simp at hp⟩,by simp[Kind.fp,blk,Value.ownBlock]⟩
end
section
variable {P:Type} {K:Kind P} {w w':World} {a:Option Addr} {n cap:Nat} {ps:List P}
theorem Kind.At.takeK(h:K.At w (.slice a n cap) ps)(m:Nat)(hm:m≤ps.length):K.At w (.slice a m cap) (ps.take m):=by
 obtain⟨a',c,e,hl,hr⟩:=h;simp only[Value.slice.injEq]at e;obtain⟨rfl,_,rfl⟩:=e;refine⟨a,cap,by rw[List.length_take,Nat.min_eq_left hm],?_,fun p hp=>hr p (List.mem_of_mem_take hp)⟩;have er:K.row ps=K.row (ps.take m)++K.row (ps.drop m):=by
  unfold Kind.row;rw[←List.flatMap_append,List.take_append_drop]
 rcases hl with h0|⟨b,off,ha,hlt,hc⟩
 ·left;rw[er]at h0;exact(List.append_eq_nil_iff.1 h0).1
 ·right;refine⟨b,off,ha,hlt,fun j x hx=>hc j x ?_⟩;rw[er,List.getElem?_append_left (List.getElem?_eq_some_iff.1 hx).1];exact hx
theorem Kind.Own.capK(h:K.Own w (.slice a n cap) ps):n≤cap∧cap≤maxLen:=by
 rcases h.1.2 with⟨e,_⟩|⟨g,c,cur,e,_,_,h1,h2,_⟩
 ·simp only[Value.slice.injEq]at e;obtain⟨_,rfl,rfl⟩:=e;exact⟨Nat.le_refl _,by decide⟩
 ·simp only[Value.slice.injEq]at e;obtain⟨_,rfl,rfl⟩:=e;exact⟨h1,h2⟩
theorem Kind.At.nilA(w:World)(a:Option Addr)(c':Nat):K.At w (.slice a 0 c') ([]:List P):=⟨a,c',rfl,Or.inl rfl,fun p hp=>by simp at hp⟩
theorem Kind.At.dropS(h:K.At w (.slice a n cap) ps)(m:Nat)(hm:m≤ps.length)(hcap:ps.length≤cap)(c':Nat):K.At w (.slice (if cap=m then a else a.map (·.add (m*K.size))) (ps.drop m).length c') (ps.drop m):=by
 by_cases hc:cap=m
 ·have hp:ps.drop m=[]:=List.drop_of_length_le (by omega);rw[if_pos hc,hp];exact Kind.At.nilA w a c'
 ·rw[if_neg hc]
  cases a with
  |none=>
   obtain⟨a',c,e,hl,hr⟩:=h;simp only[Value.slice.injEq]at e;obtain⟨rfl,_,rfl⟩:=e;rcases hl with h0|⟨b',off',ha,_⟩
   ·refine⟨none,c',rfl,Or.inl ?_,fun p hp=>hr p (List.mem_of_mem_drop hp)⟩;have er:K.row ps=K.row (ps.take m)++K.row (ps.drop m):=by
     unfold Kind.row;rw[←List.flatMap_append,List.take_append_drop]
    rw[er]at h0;exact(List.append_eq_nil_iff.1 h0).2
   ·simp at ha
  |some x=>
   obtain⟨a',c,e,hl,hr⟩:=h;simp only[Value.slice.injEq]at e;obtain⟨rfl,_,rfl⟩:=e;refine⟨_,c',rfl,?_,fun p hp=>hr p (List.mem_of_mem_drop hp)⟩;have er:K.row ps=K.row (ps.take m)++K.row (ps.drop m):=by
    unfold Kind.row;rw[←List.flatMap_append,List.take_append_drop]
   have hlen:(K.row (ps.take m)).length=m*K.size:=by rw[Kind.row_length,List.length_take,Nat.min_eq_left hm]
   rcases hl with h0|⟨b',off',ha,hlt,hc⟩
   ·left;rw[er]at h0;exact(List.append_eq_nil_iff.1 h0).2
   ·right;simp only[Option.some.injEq]at ha;subst ha;refine⟨b',off'+m*K.size,by simp[Addr.add],hlt,fun j y hy=>?_⟩;have h2:=hc (m*K.size+j) y (by rw[er,List.getElem?_append_right (by omega),hlen,show m*K.size+j-m*K.size=j by omega];exact hy);rw[←Nat.add_assoc]at h2;exact h2
theorem Kind.at_of_row{v:Value}{base e:Nat}(h:w.ownsRow base e K.size v ps.length (K.row ps))(hr:∀p∈ps,K.rd w p):K.At w v ps:=by
 obtain⟨a,c,rfl⟩:=z0b h;exact⟨a,c,rfl,Lies.own h,hr⟩
end
theorem Blk.outs8{w w':World}{b:Nat}{t:TypeId}{cs:Array Value}{F:List Nat}(h:Blk w b t cs)(hU:Out F w w')(hF:b∉F):Blk w' b t cs:=(hU.block b h.lt hF).trans h
theorem Blk.putA{w:World}{b:Nat}{t:TypeId}{cs:Array Value}(h:Blk w b t cs)(j:Nat)(v:Value):Blk (w.setCell ⟨b,j,none⟩ v) b t (cs.setIfInBounds j v):=by
 have:=Go.Joins.block_setCell (i:=j) (v:=v) h;unfold Blk;simpa using this
theorem Blk.other8{w:World}{b g j:Nat}{u:Value}{t:TypeId}{cs:Array Value}(h:Blk w b t cs)(hne:b≠g):Blk (w.setCell ⟨g,j,none⟩ u) b t cs:=(Below.heap_setCell w _ _ b hne).trans h
def z2k:Value→Prop
 | .slice _ n c=>n≤c∧c≤maxLen
 |_=>False
theorem Kind.Own.capOk{P:Type}{K:Kind P}{w:World}{v:Value}{ps:List P}(h:K.Own w v ps):z2k v:=by
 obtain⟨a,c,rfl⟩:=h.shape;exact h.capK
def z02(f:Nat→Int):Nat→Int
 |0=>0
 |n+1=>if z02 f n=0 then f n else z02 f n
theorem z1o(f:Nat→Int):∀n,(∀j,j<n→f j=0)→z02 f n=0
 |0,_=>rfl
 |n+1,h=>by
  have:=z1o f n (fun j hj=>h j (by omega));simp only[z02,this,if_true];exact h n (by omega)
theorem z2u(f:Nat→Int)(k:Nat)(h:∀j,j<k→f j=0)(hne:f k≠0):∀n,k<n→z02 f n=f k
 |0,hk=>by omega
 |n+1,hk=>by
  by_cases e:k=n
  ·subst e;simp only[z02,z1o f k h,if_true]
  ·have:=z2u f k h hne n (by omega);simp only[z02,this,hne,if_false]
theorem z2W(f:Nat→Int):∀n,z02 f n=0→∀j,j<n→f j=0
 |0,_,j,hj=>by omega
 |n+1,h,j,hj=>by
  simp only[z02]at h;by_cases e:z02 f n=0
  ·rw[if_pos e]at h;by_cases ej:j=n
   ·subst ej;exact h
   ·exact z2W f n e j (by omega)
  ·rw[if_neg e]at h;exact absurd h e
def prevK(xs:List ItemD)(k:Nat):Int:=if k=0 then 0 else(xs.getD (k-1) z0c).key
def itF(xs:List ItemD)(k:Nat):Int:=
 if inW (xs.getD k z0c).key 1 20=false∨inW (xs.getD k z0c).val (-20000) 20000=false then 3
 else if(xs.getD k z0c).key≤prevK xs k then 1 else 0
def itemsF(xs:List ItemD):Int:=if 8<xs.length then 2 else z02 (itF xs) xs.length
theorem z4D(xs:List ItemD)(k:Nat):
  (inW (xs.getD k z0c).key 1 20=false∧itF xs k=3)∨(inW (xs.getD k z0c).key 1 20=true∧inW (xs.getD k z0c).val (-20000) 20000=false∧itF xs k=3)∨
  (inW (xs.getD k z0c).key 1 20=true∧inW (xs.getD k z0c).val (-20000) 20000=true∧(xs.getD k z0c).key≤prevK xs k∧itF xs k=1)∨
  (inW (xs.getD k z0c).key 1 20=true∧inW (xs.getD k z0c).val (-20000) 20000=true∧¬(xs.getD k z0c).key≤prevK xs k∧itF xs k=0):=by
 unfold itF;generalize xs.getD k z0c=x;generalize prevK xs k=p
 cases h1:inW x.key 1 20<;>cases h2:inW x.val (-20000) 20000<;>by_cases h3:x.key≤p<;>simp[h3]
theorem z1h(n:Int)(w:World):
  Calls Tryz.prog 144 #[.int .i64 n] w fun e w'=>e=.returned (.bool (inW n (-20000) 20000))∧w'=w:=by
 have hc:=fun w=>z0Z n (-20000) 20000 w
 generalize inW n (-20000) 20000=r at hc;go_enter Tryz.func144,Tryz.ntmps144
 go_wp2_with (go_at_call 38;refine(hc _).mono ?_;rintro e w' ⟨rfl,rfl⟩)
 go_ret;exact⟨rfl,rfl⟩
theorem z1p(a:Option Addr)(cap:Nat)(zs:List ItemD)(w:World)(h:ItemRow w a zs)(hl:zs.length≤1048576):
  Calls Tryz.prog 82 #[.slice a zs.length cap] w fun e w'=>e=.returned (.int .i64 (itemsF zs))∧Below w.heap.size w w':=by
 by_cases h8:8<zs.length
 ·have E:itemsF zs=2:=if_pos h8;rw[E];go_enter Tryz.func82,Tryz.ntmps82
  go_wp2
  go_ret;exact⟨rfl,Below.refl _ _⟩
 have E:itemsF zs=z02 (itF zs) zs.length:=if_neg h8;rw[E];clear E;go_enter Tryz.func82,Tryz.ntmps82
 go_wp2
 go_loopw[3,11] (fun l j wr=>∃k:Nat,k≤zs.length∧j=.int .i64 k∧l=.int .i64 (prevK zs k)∧Below w.heap.size w wr∧Hid (∀j,j<k→itF zs j=0)) (fun _ j _=>zs.length-(intOf j).toNat)
 case atStart=>exact⟨0,Nat.zero_le _,rfl,rfl,Below.refl _ _,fun j hj=>absurd hj (Nat.not_lt_zero _)⟩
 case round=>
  obtain⟨k,hk,rfl,rfl,hb,HA⟩:=hrel;by_cases hlt:k<zs.length
  ·obtain⟨b,off,rfl,hbs,hc0,hc1⟩:=(h.below hb).at k hlt;have hsz:=hb.size;have HK:Hid (prevK zs (k+1)=(zs.getD k z0c).key):=if_neg (Nat.succ_ne_zero k);rcases z4D zs k with⟨h1,hF⟩|⟨h1,h2,hF⟩|⟨h1,h2,h3,hF⟩|⟨h1,h2,h3,hF⟩
   case inr.inr.inr=>
    have HB:Hid (∀j,j<k+1→itF zs j=0):=by
     intro j hj;by_cases hjk:j=k
     ·subst hjk;exact hF
     ·exact HA.out j (by omega)
    clear HA hF;generalize prevK zs k=p at h3;generalize zs.getD k z0c=z at hc0 hc1 h1 h2 h3 HK;obtain⟨z0,z1⟩:=z;dsimp only at hc0 hc1 h1 h2 h3 HK
    go_wp2_with (first|(go_at_call 38;refine(z0Z _ _ _ _).mono ?_;rintro e w' ⟨rfl,rfl⟩)|(go_at_call 144;refine(z1h _ _).mono ?_;rintro e w' ⟨rfl,rfl⟩))
    go_roundw
    case rel=>exact⟨k+1,by omega,by go_num,by rw[HK.out],by go_grown,HB⟩
    case measure=>simp[intOf];omega
   all_goals
    have E:Hid (z02 (itF zs) zs.length=_):=z2u (itF zs) k HA.out (by rw[hF];decide) zs.length hlt;rw[hF]at E;clear HA hF HK;generalize prevK zs k=p at*;generalize zs.getD k z0c=z at*;obtain⟨z0,z1⟩:=z;dsimp only at*
    go_wp2_with (first|(go_at_call 38;refine(z0Z _ _ _ _).mono ?_;rintro e w' ⟨rfl,rfl⟩)|(go_at_call 144;refine(z1h _ _).mono ?_;rintro e w' ⟨rfl,rfl⟩))
    go_ret;rw[E.out];exact⟨rfl,by go_grown⟩
  ·have hkl:k=zs.length:=by omega
   subst hkl;have E:Hid (z02 (itF zs) zs.length=0):=z1o _ _ HA.out;clear HA
   go_wp2
   go_ret;rw[E.out];exact⟨rfl,hb⟩
end Go.Proofs.YtciofogeiohleaaGreatDoor

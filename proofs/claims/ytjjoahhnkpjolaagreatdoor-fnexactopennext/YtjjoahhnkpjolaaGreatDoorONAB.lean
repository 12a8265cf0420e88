import Derived.Test.YtjjoahhnkpjolaaGreatDoorONAA
import Derived.Deep.RegionHeld3
import Derived.Lib.SmallJoins
set_option linter.unusedVariables false
set_option linter.unusedSimpArgs false
set_option maxRecDepth 100000
set_option maxHeartbeats 2000000
namespace Go.Proofs.YtjjoahhnkpjolaaGreatDoor
open Go.RowKit Go.BigFrame
open List renaming getD->Va
open IntKind renaming i64->G
open Value renaming int->H,slice->Sl
open Go.Proofs.Tryz renaming prog->It
open Go.Proofs.Tryz
def Lies(w:World)(a:Option Addr)(xs:List Value):Prop:=
 xs=[]∨∃b off,a=some ⟨b,off,none⟩∧b<w.heap.size∧∀i x,xs[i]?=some x→w.cell? ⟨b,off+i,none⟩=some x
theorem Lies.below{w w':World}{a:Option Addr}{xs:List Value}(h:Lies w a xs)(hb:Below w.heap.size w w'):Lies w' a xs:=by
 rcases h with h|⟨b,off,ha,hlt,hc⟩
 ·exact Or.inl h
 ·exact Or.inr ⟨b,off,ha,Nat.lt_of_lt_of_le hlt hb.size,fun i x hx=>by rw[hb.cell (p:=⟨b,off+i,none⟩) hlt];exact hc i x hx⟩
theorem Lies.own{w:World}{base e size n c:Nat}{a:Option Addr}{xs:List Value}(h:w.ownsRow base e size (Sl a n c) n xs):Lies w a xs:=by
 rcases h.2 with⟨he,hn⟩|⟨g,cap,cur,he,hb,hg,r⟩
 ·left;have:=h.1;rw[hn,Nat.zero_mul]at this;exact List.eq_nil_of_length_eq_zero this
 ·right;simp only[Value.slice.injEq,true_and]at he;obtain⟨rfl,rfl⟩:=he;refine⟨g,0,rfl,(Array.getElem?_eq_some_iff.1 hg).1,fun i x hx=>?_⟩;have hi:i<n*size:=by rw[←h.1];exact(List.getElem?_eq_some_iff.1 hx).1
  rw[Nat.zero_add,h.cellAt i hi,hx]
def z61(zs xs:List Value)(k:Nat):List Value:=zs.take k++xs.drop k
theorem z17(zs xs:List Value):z61 zs xs 0=xs:=by simp[z61]
theorem z2S(zs xs:List Value)(k:Nat)(h:xs.length=zs.length)(hk:zs.length=k):z61 zs xs k=zs:=by
 have:xs.drop k=[]:=List.drop_of_length_le (by omega);simp[z61,this,←hk];omega
theorem z1D(zs xs:List Value)(k:Nat)(v:Value)(h:xs.length=zs.length)(hv:zs[k]?=some v):(z61 zs xs k).set k v=z61 zs xs (k+1):=by
 have hk:k<zs.length:=(List.getElem?_eq_some_iff.1 hv).1;apply List.ext_getElem?;intro j;simp only[z61,List.getElem?_set,List.getElem?_append,List.length_append,List.length_take,List.length_drop,List.getElem?_drop,List.getElem?_take];by_cases hj:j=k
 ·subst hj;simp[Nat.min_eq_left (Nat.le_of_lt hk),Nat.min_eq_left (show j+1≤zs.length by omega),hv];omega
 ·rw[if_neg (by omega),Nat.min_eq_left (by omega),Nat.min_eq_left (by omega)];by_cases hlt:j<k
  ·simp[hlt,show j<k+1 by omega]
  ·rw[if_neg hlt,if_neg (by omega)]
   congr 1;omega
structure ActD where
 kind:Int
 key:Int
 val:Int
def z0e:ActD:=⟨0,0,0⟩
def ActD.cells(x:ActD):List Value:=[H G x.kind,H G x.key,H G x.val]
def z0p(xs:List ActD):List Value:=xs.flatMap ActD.cells
def ActRow(w:World)(a:Option Addr)(xs:List ActD):Prop:=Lies w a (z0p xs)
theorem z0s(xs:List ActD):(z0p xs).length=xs.length*3:=by
 induction xs with
 |nil=>rfl
 |cons x xs ih=>simp only[z0p,List.flatMap_cons,List.length_append,List.length_cons]at ih⊢;rw[ih];simp[ActD.cells];omega
theorem z2B(xs:List ActD):∀ (i:Nat),i<xs.length→(z0p xs)[i*3]?=some (H G (xs.getD i z0e).kind)∧(z0p xs)[i*3+1]?=some (H G (xs.getD i z0e).key)∧(z0p xs)[i*3+2]?=some (H G (xs.getD i z0e).val):=by
 induction xs with
 |nil=>intro i h;simp at h
 |cons x xs ih=>
  intro i h
  cases i with
  |zero=>simp[z0p,ActD.cells]
  |succ i=>
   have e:z0p (x::xs)=x.cells++z0p xs:=rfl;have hl:x.cells.length=3:=rfl;obtain⟨h1,h2,h3⟩:=ih i (by simpa using h);rw[e,List.getElem?_append_right (by omega),List.getElem?_append_right (by omega),List.getElem?_append_right (by omega),hl,show(i+1)*3-3=i*3 by omega,show(i+1)*3+1-3=i*3+1 by omega,show(i+1)*3+2-3=i*3+2 by omega];simpa[Va]using⟨h1,h2,h3⟩
theorem ActRow.below{w w':World}{a:Option Addr}{xs:List ActD}(h:ActRow w a xs)(hb:Below w.heap.size w w'):ActRow w' a xs:=Lies.below h hb
theorem ActRow.at{w:World}{a:Option Addr}{xs:List ActD}(h:ActRow w a xs)(i:Nat)(hi:i<xs.length):
  ∃b off,a=some ⟨b,off,none⟩∧b<w.heap.size∧w.cell? ⟨b,off+i*3,none⟩=some (H G (xs.getD i z0e).kind)∧w.cell? ⟨b,off+i*3+1,none⟩=some (H G (xs.getD i z0e).key)∧w.cell? ⟨b,off+i*3+2,none⟩=some (H G (xs.getD i z0e).val):=by
 obtain⟨h1,h2,h3⟩:=z2B xs i hi;rcases h with h|⟨b,off,ha,hlt,hc⟩
 ·have:=z0s xs;rw[h]at this;simp at this;omega
 ·exact⟨b,off,ha,hlt,hc _ _ h1,by rw[Nat.add_assoc];exact hc _ _ h2,by rw[Nat.add_assoc];exact hc _ _ h3⟩
theorem z5k:(It.info? 210).map (fun i=>(i.zero,i.size,i.bytes))=some (some (.agg #[H G 0,H G 0,H G 0]),3,24):=by kernel_rfl
theorem q1P(k y v:Int)(w:World):
  Calls It 199 #[.agg #[H G k,H G y,H G v]] w fun e w'=>e=.returned (.agg #[H G k,H G y,H G v])∧Below w.heap.size w w':=by
 go_enter func199,ntmps199
 go_wp2
 exact bodyPost_ret (v:=.agg #[H G k,H G y,H G v]) (by simp[results,results199,go_sem]) rfl ⟨rfl,by go_grown⟩
theorem q6S{w:World}{base e g cap n k:Nat}{zs ys:List Value}{v0 v1 v2:Value}(ho:w.ownsRow base e 3 (Sl (some ⟨g,0,none⟩) n cap) n (z61 zs ys (k*3)))
  (hl:ys.length=zs.length) (hz:zs.length=n*3) (hk:k<n) (g0:zs[k*3]?=some v0) (g1:zs[k*3+1]?=some v1) (g2:zs[k*3+2]?=some v2):
  (((w.setCell ⟨g,k*3,none⟩ v0).setCell ⟨g,k*3+1,none⟩ v1).setCell ⟨g,k*3+2,none⟩ v2).ownsRow base e 3 (Sl (some ⟨g,0,none⟩) n cap) n (z61 zs ys ((k+1)*3))∧
  (w.frozen? ⟨g,k*3,none⟩=false∧w.frozen? ⟨g,k*3+1,none⟩=false∧w.frozen? ⟨g,k*3+2,none⟩=false)∧
  ((∃u,w.cell? ⟨g,k*3,none⟩=some u)∧(∃u,w.cell? ⟨g,k*3+1,none⟩=some u)∧(∃u,w.cell? ⟨g,k*3+2,none⟩=some u))∧
  (∀B a,Below B a w→B≤g→Below B a (((w.setCell ⟨g,k*3,none⟩ v0).setCell ⟨g,k*3+1,none⟩ v1).setCell ⟨g,k*3+2,none⟩ v2)):=by
 have hc:∀j,j<n*3→∃u,w.cell? ⟨g,j,none⟩=some u:=fun j hj=>by
  rw[ho.cellAt j hj];exact⟨_,List.getElem?_eq_getElem (by rw[ho.1];exact hj)⟩
 have s0:=(ho.stored (k*3) v0).1;rw[z1D _ _ _ _ hl g0]at s0;have s1:=(s0.stored (k*3+1) v1).1;rw[z1D _ _ _ _ hl g1]at s1;have s2:=(s1.stored (k*3+2) v2).1;rw[z1D _ _ _ _ hl g2,show k*3+2+1=(k+1)*3 by omega]at s2;exact⟨s2,⟨ho.frozenAt _,ho.frozenAt _,ho.frozenAt _⟩,⟨hc _ (by omega),hc _ (by omega),hc _ (by omega)⟩,fun B a h hB=>((h.setCell hB _).setCell hB _).setCell hB _⟩
theorem q0M(a:Option Addr)(cap:Nat)(zs:List ActD)(w:World)(h:ActRow w a zs)(hl:zs.length≤1048576):
  Calls It 164 #[Sl a zs.length cap] w fun e w'=>∃g c,e=.returned (Sl (some ⟨g,0,none⟩) zs.length c)∧
   w'.ownsRow w.heap.size 210 3 (Sl (some ⟨g,0,none⟩) zs.length c) zs.length (z0p zs)∧Below w.heap.size w w':=by
 obtain⟨i0,hi,X,Y,Z⟩:=info_parts z5k;have y:i0.bytes*zs.length≤281474976710656:=by rw[Z];omega
 have N:zs.length≤maxLen:=by unfold maxLen;omega
 have D:=z0s zs;go_enter func164,ntmps164
 go_wp2_with (at_make;refine wpList_make_full _ rfl _ _ 156 rfl w.heap.size 210 i0 (.agg #[H G 0,H G 0,H G 0]) 3 Tryz.underlying156 hi X Y _ _ _ _ zs.length rfl rfl rfl rfl y N (Nat.le_refl _) ?_)
 intro w1 x E;have d:(madeCells #[Value.int .i64 0,H G 0,H G 0] (zs.length*3)).toList.length=(z0p zs).length:=by simp[size_madeCells,D]
 have T:Below w.heap.size w w1:=(Below.refl _ _).grown E (Nat.le_refl _) (by simp);generalize (madeCells #[Value.int .i64 0,H G 0,H G 0] (zs.length*3)).toList=ys at x d;rw[←z17 (z0p zs) ys]at x
 go_wp2
 go_loopw[4] (fun i wr=>∃k:Nat,k≤zs.length∧i=H G k∧wr.ownsRow w.heap.size 210 3 (Sl (some ⟨w.heap.size,0,none⟩) zs.length zs.length) zs.length (z61 (z0p zs) ys (k*3))∧Below w.heap.size w wr) (fun i _=>zs.length-(intOf i).toNat)
 case atStart=>exact⟨0,Nat.zero_le _,rfl,by simpa using x,T⟩
 case round=>
  obtain⟨k,hk,rfl,ho,hb⟩:=hrel;by_cases I:k<zs.length
  ·obtain⟨b,ab,rfl,aa,J,L,M⟩:=(h.below hb).at k I;obtain⟨g0,g1,g2⟩:=z2B zs k I;generalize zs.getD k z0e=z at J L M g0 g1 g2
   go_wp2_with fail
   refine(q1P _ _ _ _).mono ?_;rintro e w2 ⟨rfl,C⟩;replace ho:=z0c ho C;replace hb:=hb.trans (C.mono hb.size);clear J L M C;obtain⟨O,V,U,A⟩:=q6S ho d D I g0 g1 g2;obtain⟨f0,f1,f2⟩:=V;obtain⟨⟨u0,e0⟩,⟨u1,e1⟩,⟨u2,e2⟩⟩:=U;have R:Hid (_∧_):=⟨O,A _ _ hb (Nat.le_refl _)⟩
   clear O A g0 g1 g2 ho
   go_wp2
   go_roundw
   case rel=>exact⟨k+1,by omega,by go_num,R.out.1,R.out.2⟩
   case measure=>simp[intOf];omega
  ·go_wp2
   go_ret;have W:k=zs.length:=by omega
   subst W;rw[z2S _ _ _ d D]at ho;exact⟨_,_,rfl,ho,hb⟩
structure Lat (w:World) where
 val:World
 isBelow:Below w.heap.size w val
structure LatB (B:Nat) (w:World) where
 val:World
 isBelow:Below B w val
def z4F:Op→Bool
 | .move _=>true
 | .assign _=>true
 | .pick _ _ _=>true
 | .load _ _=>true
 | .fieldAddr _ _ _=>true
 | .field _ _ _=>true
 | .binOp _ _ _ _ _=>true
 | .unOp _ _ _=>true
 | .convert _ _ _=>true
 | .indexAddr _ _ _=>true
 | .extract _ _=>true
 | .nilCheck _=>true
 | .build _ _=>true
 |_=>false
theorem z62{P:Program}{s:Sem Value}{w w':World}{n:Next}(h:(do let x←s;pure (Next.value x):Sem Next).run P w=.ok n w'):∃v,n=.value v:=by
 rw[Sem.run_bind]at h
 cases hs:s.run P w with
 |ok x w1=>
  rw[hs]at h;simp[Result.andThen,Sem.run_pure]at h;exact⟨x,h.1.symm⟩
 |halt x w1=>
  rw[hs]at h;simp[Result.andThen]at h
theorem z72{P:Program}{g:Program→Sem (Option Bool)}{u:Unsupported}{x:Value}{w w':World}{n:Next}
  (h:(do let p←program;let r←g p;if(r !=some false)=true then do unsupported u;pure (Next.value x)else pure (Next.value x):Sem Next).run P w=.ok n w'):∃v,n=.value v:=by
 simp only[Sem.run_bind,run_program,Result.andThen_ok]at h
 cases hs:(g P).run P w with
 |ok r w1=>
  rw[hs]at h;simp only[Result.andThen_ok]at h;split at h
  ·rw[Sem.run_bind]at h
   cases hu:(unsupported u:Sem Unit).run P w1 with
   |ok r w2=>rw[hu]at h;simp[Sem.run_pure]at h;exact⟨_,h.1.symm⟩
   |halt r w2=>rw[hu]at h;simp[Result.andThen]at h
  ·simp[Sem.run_pure]at h;exact⟨_,h.1.symm⟩
 |halt r w1=>rw[hs]at h;simp[Result.andThen]at h
theorem z5l{P:Program}{o:Oper}{ρ:Operand→Value}{w w':World}{n:Next}(hp:z4F o.op=true)(h:(execOp ρ o).run P w=.ok n w'):∃v,n=.value v:=by
  unfold execOp at h
  cases hop:o.op<;>rw[hop]at hp<;>simp only[z4F,Bool.false_eq_true]at hp<;>rw[hop]at h<;>dsimp only at h
  all_goals first
    |exact z62 h
    |(simp[Sem.run_pure]at h;exact⟨_,h.1.symm⟩)
    | (split at h
       all_goals first
         |(simp[Sem.run_pure]at h;exact⟨_,h.1.symm⟩)
         |(simp[go_sem]at h;done)
         | (split at h
            all_goals first
              |(simp[Sem.run_pure]at h;exact⟨_,h.1.symm⟩)
              |(simp[go_sem]at h;done)
              | (exact z72 (g:=fun p=>nilAhead (p.types.size + Made.depth) _ _ _) h)))
    | (rw [Sem.run_bind] at h
       revert h
       cases (asBool (ρ _)).run P w with
       |ok x w1=>intro h;simp[Result.andThen,Sem.run_pure]at h;exact⟨_,h.1.symm⟩
       | halt x w1=>intro h;simp [Result.andThen] at h)
section
variable {P:Program} {ops:Array Oper} {Q:Exit→Act→World→Prop} {S:World→Prop}
def z4Z(ops:Array Oper):List Nat→Array Bool→Bool
 |[],_=>true
 |i::r,l=>Region.free .any ops l i && (Region.ready .any ops l).contains i && z4Z ops r (l.setIfInBounds i true)
def z4f:List Nat→Array Bool→Array Bool
 |[],l=>l
 |i::r,l=>z4f r (l.setIfInBounds i true)
def z7W(rs:List (Nat × Nat)):List Nat:=rs.flatMap fun r=>(List.range r.2).map (r.1+ ·)
def z3w(l:List Oper)(rs:List (Nat × Nat)):List Oper:=rs.flatMap fun r=>(l.drop r.1).take r.2
theorem pkE:(∀ (l:List Oper) (rs:List (Nat × Nat)),z3w l rs=rs.flatMap fun r=>(l.drop r.1).take r.2)∧(∀l:List Oper,l.toArray.toList=l)∧
  (∀ (f:Nat × Nat→List Oper) (x:Nat × Nat) (xs:List (Nat × Nat)),(x::xs).flatMap f=f x++xs.flatMap f)∧(∀f:Nat × Nat→List Oper,List.flatMap f []=[])∧
  (∀ (o:Oper) (l:List Oper) (i:Nat),(o::l).drop (i+1)=l.drop i)∧(∀l:List Oper,l.drop 0=l)∧(∀ (o:Oper) (l:List Oper) (i:Nat),(o::l).take (i+1)=o::l.take i)∧(∀l:List Oper,l.take 0=[])∧
  (∀ (o:Oper) (l m:List Oper),(o::l)++m=o::(l++m))∧(∀l:List Oper,[]++l=l)∧(∀l:List Oper,l++[]=l):=
 ⟨fun _ _=>rfl,fun _=>rfl,fun _ _ _=>List.flatMap_cons,fun _=>rfl,fun _ _ _=>rfl,fun _=>rfl,fun _ _ _=>rfl,fun _=>rfl,fun _ _ _=>rfl,fun _=>rfl,fun _=>List.append_nil _⟩
theorem q1Q(hs:Region.noSelect ops=true)(hQ:∀c a d v w,Q (.panic c) (a.put d v) w→Q (.panic c) a w):
  ∀ (A:List Nat) (os:List Oper) (l:Array Bool) (a:Act) (w:World) (y:Nat),A.map (ops[·]?)=os.map some→os.all (fun o=>z4F o.op)=true→z4Z ops A l=true→S w→
   wpQuiet P ops S (fun a'=>wpAnyH P .any ops Q S y (z4f A l) a' w) os a→wpAnyH P .any ops Q S (y+A.length) l a w:=by
 intro A;induction A with
 |nil=>
  intro os l a w y z _ _ _ h
  cases os with
  |nil=>exact h
  |cons o os=>simp at z
 |cons i r ih=>
  intro os l a w y z C E hS h
  cases os with
  |nil=>simp at z
  |cons o os=>
   simp only[List.map_cons,List.cons.injEq]at z;simp only[List.all_cons,Bool.and_eq_true]at C;simp only[z4Z,Bool.and_eq_true]at E;obtain⟨⟨hf,hr⟩,D⟩:=E;simp only[wpQuiet]at h;by_cases hw:Region.wanted o (yielded ops a.tmps)=true
   ·rw[if_pos hw]at h;obtain⟨v,hv,hk⟩:=h;refine wpAnyH_take (i:=i) (oi:=o) (v:=v) z.1 hs hf hr (fun c a w=>hQ c a _ _ w) (Or.inl ⟨hw,fun u hu=>?_⟩) hS (ih os _ _ w y z.2 C.2 D hS hk);have hq:=hv u hu;unfold Oper.quietAt at hq
    cases hrun:(execOp a.eval o).run P u with
    |ok n u'=>
     obtain⟨x,rfl⟩:=z5l C.1 hrun;rw[hrun]at hq;obtain⟨e1,e2⟩:=hq;rw[e1,e2]
    |halt x u'=>
     rw[hrun]at hq;exact hq.elim
   ·rw[if_neg hw]at h;have I:Region.wanted o (yielded ops a.tmps)=false:=by simpa using hw
    exact wpAnyH_take (i:=i) (oi:=o) (v:=undef) z.1 hs hf hr (fun c a w=>hQ c a _ _ w) (Or.inr ⟨I,rfl⟩) hS (ih os _ _ w y z.2 C.2 D hS h)
theorem q0N(hs:Region.noSelect ops=true)(hQ:∀c a d v w,Q (.panic c) (a.put d v) w→Q (.panic c) a w)(i:Nat)(d:Option Tmp){l:Array Bool}{a:Act}{w:World}{fuel:Nat}
  (hd:(ops[i]?).map (·.dst)=some d) (hok:z4Z ops [i] l=true) (hw:(ops[i]?).map (fun o=>Region.wanted o (yielded ops a.tmps))=some false) (hS:S w)
  (h:wpAnyH P .any ops Q S fuel (z4f [i] l) (a.put d undef) w):wpAnyH P .any ops Q S (fuel+1) l a w:=by
 cases ho:ops[i]? with
 |none=>rw[ho]at hd;simp at hd
 |some o=>
  rw[ho]at hd hw;simp only[Option.map_some,Option.some.injEq]at hd hw;subst hd;simp only[z4Z,Bool.and_eq_true,Bool.and_true]at hok;exact wpAnyH_take (i:=i) (oi:=o) (v:=undef) ho hs hok.1 hok.2 (fun c a w=>hQ c a _ _ w) (Or.inr ⟨hw,rfl⟩) hS h
theorem q0O(i:Nat)(d:Option Tmp)(f:Nat)(args:Array Value){l:Array Bool}{a:Act}{w:World}{fuel:Nat}
  (hd:(ops[i]?).map (·.dst)=some d) (hr:Region.ready .any ops l=[i]) (hw:(ops[i]?).map (fun o=>Region.wanted o (yielded ops a.tmps))=some true)
  (hrun:(ops[i]?).map (fun o=>(execOp a.eval o).run P w)=some (.ok (.enter f args) w))
  (hc:Calls P f args w (fun e w'=>∃v,e=.returned v∧S w'∧wpAnyH P .any ops Q S fuel (z4f [i] l) (a.put d v) w')):wpAnyH P .any ops Q S (fuel+1) l a w:=by
 cases ho:ops[i]? with
 |none=>rw[ho]at hd;simp at hd
 |some o=>
  rw[ho]at hd hw hrun;simp only[Option.map_some,Option.some.injEq]at hd hw hrun;subst hd;refine wpAnyH_all hr (by simp) (fun j hj=>?_);simp only[List.mem_singleton]at hj;subst hj;unfold wpOp;simp only[ho,hw,if_true];refine .inl ?_;unfold Oper.wp;rw[hrun];simp only[Oper.upon];refine hc.mono fun e w' he=>?_
  obtain⟨v,rfl,h1,h2⟩:=he;exact⟨h1,h2⟩
theorem z5m(rs:List (Nat × Nat))(fuel:Nat){F:Nat}{l:Array Bool}{a:Act}{w:World}(hF:F=fuel+(z7W rs).length)(hs:Region.noSelect ops=true)(hm:(z7W rs).map (ops[·]?)=(z3w ops.toList rs).map some)
  (hp:(z3w ops.toList rs).all (fun o=>z4F o.op)=true) (hok:z4Z ops (z7W rs) l=true) (hS:S w)
  (h:wpQuiet P ops S (fun a'=>wpAnyH P .any ops (NoPanic Q) S fuel (z4f (z7W rs) l) a' w) (z3w ops.toList rs) a):wpAnyH P .any ops (NoPanic Q) S F l a w:=by
 subst hF;exact q1Q hs (fun _ _ _ _ _ h=>h) (z7W rs) _ l a w fuel hm hp hok hS h
theorem q4V(i:Nat)(d:Option Tmp)(fuel:Nat){F:Nat}{l:Array Bool}{a:Act}{w:World}(hF:F=fuel+1)(hs:Region.noSelect ops=true)
  (hd:(ops[i]?).map (·.dst)=some d) (hok:z4Z ops [i] l=true) (hw:(ops[i]?).map (fun o=>Region.wanted o (yielded ops a.tmps))=some false) (hS:S w)
  (h:wpAnyH P .any ops (NoPanic Q) S fuel (z4f [i] l) (a.put d undef) w):wpAnyH P .any ops (NoPanic Q) S F l a w:=by
 subst hF;exact q0N hs (fun _ _ _ _ _ h=>h) i d hd hok hw hS h
theorem q1R(i:Nat)(d:Option Tmp)(f:Nat)(args:Array Value)(fuel:Nat){F:Nat}{l:Array Bool}{a:Act}{w:World}(hF:F=fuel+1)
  (hd:(ops[i]?).map (·.dst)=some d) (hr:Region.ready .any ops l=[i]) (hw:(ops[i]?).map (fun o=>Region.wanted o (yielded ops a.tmps))=some true)
  (hrun:(ops[i]?).map (fun o=>(execOp a.eval o).run P w)=some (.ok (.enter f args) w))
  (hc:Calls P f args w (fun e w'=>∃v,e=.returned v∧S w'∧wpAnyH P .any ops (NoPanic Q) S fuel (z4f [i] l) (a.put d v) w')):wpAnyH P .any ops (NoPanic Q) S F l a w:=by
 subst hF;exact q0O i d f args hd hr hw hrun hc
theorem sgr(rs:List (Nat × Nat))(fuel:Nat){F:Nat}{l:Array Bool}{a:Act}{w:World}(h5:(F,Region.noSelect ops,(z7W rs).map (ops[·]?),(z3w ops.toList rs).all (fun o=>z4F o.op),z4Z ops (z7W rs) l)=(fuel+(z7W rs).length,true,(z3w ops.toList rs).map some,true,true))(hS:S w)
  (h:wpQuiet P ops S (fun a'=>wpAnyH P .any ops (NoPanic Q) S fuel (z4f (z7W rs) l) a' w) (z3w ops.toList rs) a):wpAnyH P .any ops (NoPanic Q) S F l a w:=by
 simp only[Prod.mk.injEq]at h5;exact z5m rs fuel h5.1 h5.2.1 h5.2.2.1 h5.2.2.2.1 h5.2.2.2.2 hS h
theorem ska(i:Nat)(d:Option Tmp)(fuel:Nat){F:Nat}{l:Array Bool}{a:Act}{w:World}(h5:(F,Region.noSelect ops,(ops[i]?).map (·.dst),z4Z ops [i] l,(ops[i]?).map (fun o=>Region.wanted o (yielded ops a.tmps)))=(fuel+1,true,some d,true,some false))(hS:S w)
  (h:wpAnyH P .any ops (NoPanic Q) S fuel (z4f [i] l) (a.put d undef) w):wpAnyH P .any ops (NoPanic Q) S F l a w:=by
 simp only[Prod.mk.injEq]at h5;exact q4V i d fuel h5.1 h5.2.1 h5.2.2.1 h5.2.2.2.1 h5.2.2.2.2 hS h
theorem cla(i:Nat)(d:Option Tmp)(f:Nat)(args:Array Value)(fuel:Nat){F:Nat}{l:Array Bool}{a:Act}{w:World}(h5:(F,(ops[i]?).map (·.dst),Region.ready .any ops l,(ops[i]?).map (fun o=>Region.wanted o (yielded ops a.tmps)),(ops[i]?).map (fun o=>(execOp a.eval o).run P w))=(fuel+1,some d,[i],some true,some (.ok (.enter f args) w)))
  (hc:Calls P f args w (fun e w'=>∃v,e=.returned v∧S w'∧wpAnyH P .any ops (NoPanic Q) S fuel (z4f [i] l) (a.put d v) w')):wpAnyH P .any ops (NoPanic Q) S F l a w:=by
 simp only[Prod.mk.injEq]at h5;exact q1R i d f args fuel h5.1 h5.2.1 h5.2.2.1 h5.2.2.2.1 h5.2.2.2.2 hc
def ThenGo(Q:Exit→Act→World→Prop)(K:Act→World→Prop):Exit→Act→World→Prop
 | .normal,a,w=>K a w
 |e,a,w=>NoPanic Q e a w
theorem ThenGo.to{K:Act→World→Prop}{a:Act}{w:World}(h:K a w):ThenGo Q K .normal a w:=h
theorem q5U(i:Nat)(o:Oper)(fuel:Nat){F:Nat}{l:Array Bool}{a:Act}{w:World}(hF:F=fuel+1)(ho:ops[i]?=some o)(hr:Region.ready .any ops l=[i])
  (h:wpList P ops (ThenGo Q (fun a' w'=>S w'∧wpAnyH P .any ops (NoPanic Q) S fuel (z4f [i] l) a' w')) [o] a w):wpAnyH P .any ops (NoPanic Q) S F l a w:=by
 subst hF;refine wpAnyH_all hr (by simp) (fun j hj=>?_);simp only[List.mem_singleton]at hj;subst hj;unfold wpOp;simp only[ho];simp only[wpList]at h;split at h
 ·rename_i hw
  rw[if_pos hw];rcases h with h|⟨h1,h2⟩
  ·left;unfold Oper.wp at h⊢;revert h;generalize (execOp a.eval o).run P w=r;intro h;unfold Oper.upon at h⊢;split at h
   ·exact h
   ·exact h
   ·exact h
   ·refine Calls.mono h fun e w' he=>?_
    cases e<;>exact he
   ·exact h
   ·exact h
   ·exact h
  ·exact Or.inr ⟨h1,h2⟩
 ·rename_i hw
  rw[if_neg hw];exact h
theorem ona(i:Nat){o:Oper}(fuel:Nat){F:Nat}{l:Array Bool}{a:Act}{w:World}(ho:ops[i]?=some o)(h2:(F,Region.ready .any ops l)=(fuel+1,[i]))
  (h:wpList P ops (ThenGo Q (fun a' w'=>S w'∧wpAnyH P .any ops (NoPanic Q) S fuel (z4f [i] l) a' w')) [o] a w):wpAnyH P .any ops (NoPanic Q) S F l a w:=by
 simp only[Prod.mk.injEq]at h2;exact q5U i o fuel h2.1 ho h2.2 h
theorem z0h{F:Nat}{l:Array Bool}{a:Act}{w:World}(hr:Region.ready .any ops l=[])(h:Q .normal a w):wpAnyH P .any ops (NoPanic Q) S F l a w:=wpAnyH_done hr (NoPanic.normal h) F
theorem z0d{id:Nat}{a:Act}{w:World}(hm:P.follows .mixedOrders=true)
  (h:wpAnyH P .any ops (NoPanic Q) S ops.size (Array.replicate ops.size false) a w.drew):(Code.region id ops true).wp P Q a w:=
 wp_region_noPanic (wp_region_held hm h)
theorem z88:∀c a d v w,NoPanic Q (.panic c) (Act.put a d v) w→NoPanic Q (.panic c) a w:=fun _ _ _ _ _ h=>h
end
theorem q0P(k y v:Int)(w:World):
  Calls It 219 #[.agg #[H G k,H G y,H G v],.agg #[H G k,H G y,H G v]] w fun e w'=>e=.returned (.bool true)∧Below w.heap.size w w':=by
 have h0:(k !=k)=false:=by simp
 have h1:(y !=y)=false:=by simp
 have h2:(v !=v)=false:=by simp
 go_enter func219,ntmps219
 go_wp2
 go_ret;exact⟨rfl,by go_grown⟩
theorem z0a{w:World}{a:Addr}{v:Value}(h:w.cell? a=some v):∀u:Lat w,u.val.cell? a=some v:=fun u=>by
 rw[u.isBelow.cell (World.block_lt_of_cell? w a h)];exact h
theorem z89(a a':Option Addr)(cap D:Nat)(zs:List ActD)(w:World)(h:ActRow w a zs)(h':ActRow w a' zs)(hl:zs.length≤1099511627776):
  Calls It 187 #[Sl a zs.length cap,Sl a' zs.length D] w fun e w'=>e=.returned (.bool true)∧Below w.heap.size w w':=by
 go_enter func187,ntmps187
 go_wp2
 go_loopw[5] (fun i wr=>∃k:Nat,k≤zs.length∧i=H G k∧Below w.heap.size w wr) (fun i _=>zs.length-(intOf i).toNat)
 case atStart=>exact⟨0,Nat.zero_le _,rfl,Below.refl _ _⟩
 case round=>
  obtain⟨k,hk,rfl,hb⟩:=hrel;by_cases I:k<zs.length
  ·obtain⟨b,O,rfl,N,c,d,x⟩:=(h.below hb).at k I;obtain⟨b',M,rfl,L,y,A,C⟩:=(h'.below hb).at k I;generalize zs.getD k z0e=z at c d x y A C;obtain⟨z0,z1,z2⟩:=z;have k0:=z0a c;have k1:=z0a d;have k2:=z0a x;have l0:=z0a y;have l1:=z0a A;have l2:=z0a C;clear c d x y A C;have hW:Below wr.heap.size wr wr.drew:=(Below.refl _ _).drew;have J:Nonempty (Lat wr):=⟨⟨wr,Below.refl _ _⟩⟩
   go_wp2_with fail
   refine z0d (S:=fun w'=>∃u:Lat wr,w'=u.val) (by kernel_rfl) ?_;refine z5m [(0,8)] 2 (by kernel_rfl) (by kernel_rfl) (by kernel_rfl) (by kernel_rfl) (by kernel_rfl) ⟨⟨_,hW⟩,rfl⟩ ?_;simp only[z3w,List.toList_toArray,List.flatMap_cons,List.flatMap_nil,List.drop_succ_cons,List.drop_zero,List.take_succ_cons,List.take_zero,List.cons_append,List.nil_append,List.append_nil];repeat go_big_quiet_step (fail)
   refine wpQuiet_nil ?_;refine q1R 8 (some 25) 219 #[.agg #[H G z0,H G z1,H G z2],.agg #[H G z0,H G z1,H G z2]] 1 (by kernel_rfl) (by kernel_rfl) (by kernel_rfl) (by kernel_rfl) (by kernel_rfl) ?_;refine(q0P _ _ _ _).mono ?_;rintro e w2 ⟨rfl,E⟩;replace hW:=hW.trans (E.mono hW.size);clear E;refine⟨_,rfl,⟨⟨_,hW⟩,rfl⟩,?_⟩;simp only[Act.put,List.setIfInBounds_toArray,List.set_cons_zero,List.set_cons_succ];refine z5m [(9,1)] 0 (by kernel_rfl) (by kernel_rfl) (by kernel_rfl) (by kernel_rfl) (by kernel_rfl) ⟨⟨_,hW⟩,rfl⟩ ?_;simp only[z3w,List.toList_toArray,List.flatMap_cons,List.flatMap_nil,List.drop_succ_cons,List.drop_zero,List.take_succ_cons,List.take_zero,List.cons_append,List.nil_append,List.append_nil];repeat go_big_quiet_step (fail)
   refine wpQuiet_nil ?_;refine z0h (by kernel_rfl) ?_;replace hb:=hb.trans (hW.mono hb.size);clear k0 k1 k2 l0 l1 l2 hW J
   go_wp2
   go_roundw
   case rel=>exact⟨k+1,by omega,by go_num,hb⟩
   case measure=>simp[intOf];omega
  ·go_wp2
   go_ret;exact⟨rfl,hb⟩
theorem q5V{w wr:World}{g k:Nat}{v0 v1 v2:Value}(h:w.grownBy wr (some g)):w.grownBy (((wr.setCell ⟨g,k,none⟩ v0).setCell ⟨g,k+1,none⟩ v1).setCell ⟨g,k+2,none⟩ v2) (some g):=by
 have one:∀ (u:World) (j:Nat) (v:Value),w.grownBy u (some g)→w.grownBy (u.setCell ⟨g,j,none⟩ v) (some g):=fun u j v h=>
  ⟨h.os,h.tape,h.output,by simpa[World.setCell]using h.size,fun i hi hne=>by rw[Below.heap_setCell _ _ _ _ (by intro e;apply hne;simp[e])];exact h.block i hi hne⟩
 exact one _ _ _ (one _ _ _ (one _ _ _ h))
def z1f(c:Int)(n:Nat):List ActD:=(List.range n).map fun(i:Nat)=>⟨c+((i*3:Nat):Int),c+((i*3+1:Nat):Int),c+((i*3+2:Nat):Int)⟩
theorem z09(c:Int)(n:Nat):(z1f c n).length=n:=by simp[z1f]
theorem z3I(c:Int)(n i:Nat)(h:i<n):(z1f c n).getD i z0e=⟨c+((i*3:Nat):Int),c+((i*3+1:Nat):Int),c+((i*3+2:Nat):Int)⟩:=by simp[z1f,Va,h]
theorem z73(base:Nat)(v:Value)(n:Nat)(xs:List Value)(c:Int)(w:World)(h:w.ownsRow base 210 3 v n xs)(hn:n≤1099511627776)(h0:0≤c)(h1:c≤1099511627776):
  Calls It 100 #[v,H G c] w fun e w'=>e=.returned (H G (c+((n*3:Nat):Int)))∧w'.ownsRow base 210 3 v n (z0p (z1f c n))∧w.grownBy w' v.ownBlock:=by
 rcases h.2 with⟨rfl,rfl⟩|⟨g,cap,M,rfl,hb,hg,r⟩
 ·go_enter func100,ntmps100
  go_wp2
  refine wp_loop_rounds 1 ?_;rw[rounds_succ]
  go_wp2
  go_ret;exact⟨by simp,World.ownsRow_nil _ _ _ _,World.grownBy.refl _ _⟩
 ·clear hg r;have d:=z0s (z1f c n);rw[z09]at d;have J:xs.length=(z0p (z1f c n)).length:=by rw[d];exact h.1
  rw[←z17 (z0p (z1f c n)) xs]at h;go_enter func100,ntmps100
  go_wp2
  go_loopw[1,5] (fun j i wr=>∃k:Nat,k≤n∧j=H G (c+((k*3:Nat):Int))∧i=H G k∧wr.ownsRow base 210 3 (Sl (some ⟨g,0,none⟩) n cap) n (z61 (z0p (z1f c n)) xs (k*3))∧w.grownBy wr (some g)) (fun _ i _=>n-(intOf i).toNat)
  case atStart=>exact⟨0,Nat.zero_le _,by simp,rfl,by simpa using h,World.grownBy.refl _ _⟩
  case round=>
   obtain⟨k,hk,rfl,rfl,ho,z⟩:=hrel;by_cases A:k<n
   ·obtain⟨g0,g1,g2⟩:=z2B (z1f c n) k (by rw[z09];exact A);rw[z3I _ _ _ A]at g0 g1 g2;obtain⟨I,⟨f0,f1,f2⟩,⟨⟨u0,e0⟩,⟨u1,e1⟩,⟨u2,e2⟩⟩,_⟩:=q6S ho J d A g0 g1 g2;have x:=q5V z (g:=g) (k:=k*3) (v0:=H G (c+((k*3:Nat):Int))) (v1:=H G (c+((k*3+1:Nat):Int))) (v2:=H G (c+((k*3+2:Nat):Int)));have R:Hid (_∧_):=⟨I,x⟩
    have C:c+((k*3+1:Nat):Int)=c+((k*3:Nat):Int)+1:=by omega
    have D:c+((k*3+2:Nat):Int)=c+((k*3:Nat):Int)+1+1:=by omega
    have E:Hid (c+(((k+1)*3:Nat):Int)=c+((k*3:Nat):Int)+1+1+1):=show _=_ by omega
    rw[C,D]at R;clear I x g0 g1 g2 ho z C D;generalize hy:((k*3:Nat):Int)=y at R E;have O:y≤3298534883328:=by omega
    have N:0≤y:=by omega
    clear hy
    go_wp2
    go_roundw
    case rel=>exact⟨k+1,by omega,by rw[E.out],by go_num,R.out.1,R.out.2⟩
    case measure=>simp[intOf];omega
   ·go_wp2
    go_ret;have L:k=n:=by omega
    subst L;rw[z2S _ _ _ J d]at ho;exact⟨rfl,ho,z⟩
theorem z65(a:Option Addr)(n cap:Nat)(c:Int)(w:World)(h:ActRow w a (z1f c n))(hn:n≤1099511627776)(h0:0≤c)(h1:c≤1099511627776):
  Calls It 150 #[Sl a n cap,H G c] w fun e w'=>e=.returned (H G (c+((n*3:Nat):Int)))∧w'=w:=by
 go_enter func150,ntmps150
 go_wp2
 go_loop[1,5] (fun j i=>∃k:Nat,k≤n∧j=H G (c+((k*3:Nat):Int))∧i=H G k) (fun _ i=>n-(intOf i).toNat)
 case atStart=>exact⟨0,Nat.zero_le _,by simp,rfl⟩
 case round=>
  obtain⟨k,hk,rfl,rfl⟩:=hrel;by_cases E:k<n
  ·obtain⟨b,N,rfl,J,z,d,x⟩:=h.at k (by rw[z09];exact E);rw[z3I _ _ _ E]at z d x;have A:c+((k*3+1:Nat):Int)=c+((k*3:Nat):Int)+1:=by omega
   have C:c+((k*3+2:Nat):Int)=c+((k*3:Nat):Int)+1+1:=by omega
   have D:Hid (c+(((k+1)*3:Nat):Int)=c+((k*3:Nat):Int)+1+1+1):=show _=_ by omega
   dsimp only at z d x;rw[A]at d;rw[C]at x;clear A C;generalize hy:((k*3:Nat):Int)=y at z d x D;have M:y≤3298534883328:=by omega
   have L:0≤y:=by omega
   clear hy
   go_wp2
   go_round
   case rel=>exact⟨k+1,by omega,by rw[D.out],by go_num⟩
   case measure=>simp[intOf];omega
  ·go_wp2
   go_ret;have I:k=n:=by omega
   subst I;exact⟨rfl,rfl⟩
theorem z0v{w W w':World}(h:Below w.heap.size w W)(hb:Below W.heap.size W w'):Below w.heap.size w w':=h.trans (hb.mono h.size)
theorem q0Q(a:Option Addr)(n cap:Nat)(c:Int)(w:World)(hn:n≤9223372036854775807)(h0:0≤c)(h1:c≤1099511627776):
  Calls It 152 #[Sl a n cap,H G c] w fun e w'=>e=.returned (H G (if c-n<0 then -1 else c-n))∧w'=w:=by
 by_cases h:c-n<0
 ·rw[if_pos h];go_enter func152,ntmps152
  go_wp2
  go_ret;exact⟨rfl,rfl⟩
 ·rw[if_neg h];go_enter func152,ntmps152
  go_wp2
  go_ret;exact⟨rfl,rfl⟩
theorem q1S(i s q:Int)(a:Option Addr)(n cap:Nat)(c:Int)(w:World)(hn:n≤9223372036854775807)(h0:0≤c)(h1:c≤1099511627776):
  Calls It 107 #[.agg #[H G i,H G s,H G q,Sl a n cap],H G c] w fun e w'=>e=.returned (H G (if c-n<0 then -1 else c-n))∧Below w.heap.size w w':=by
 have hs:=fun w=>q0Q a n cap c w hn h0 h1
 by_cases h:c-n<0
 ·rw[if_pos h]at hs⊢;go_enter func107,ntmps107
  go_wp2_with (go_at_call 152;refine(hs _).mono ?_;rintro e w' ⟨rfl,rfl⟩)
  go_ret;exact⟨rfl,by go_grown⟩
 ·rw[if_neg h]at hs⊢;go_enter func107,ntmps107
  go_wp2_with (go_at_call 152;refine(hs _).mono ?_;rintro e w' ⟨rfl,rfl⟩)
  go_ret;exact⟨rfl,by go_grown⟩
theorem q1T(i s q:Int)(a:Option Addr)(cap:Nat)(zs:List ActD)(w:World)(h:ActRow w a zs)(hl:zs.length≤1048576):
  Calls It 122 #[.agg #[H G i,H G s,H G q,Sl a zs.length cap]] w fun e w'=>∃g c,e=.returned (.agg #[H G i,H G s,H G q,Sl (some ⟨g,0,none⟩) zs.length c])∧
   w'.ownsRow w.heap.size 210 3 (Sl (some ⟨g,0,none⟩) zs.length c) zs.length (z0p zs)∧Below w.heap.size w w':=by
 go_enter func122,ntmps122
 go_wp2_with (go_at_call 164;refine(q0M a cap zs _ (h.below (by go_grown)) hl).mono ?_;rintro e w' ⟨g,c,rfl,ho,hb⟩;obtain⟨hc,hf⟩:=q6A hb;have hz:w.heap.size+3≤w'.heap.size:=by have:=hb.size;simp at this;omega)
 simp only[World.size_alloc]at ho;refine bodyPost_ret (v:=.agg #[H G i,H G s,H G q,Sl (some ⟨g,0,none⟩) zs.length c]) (by simp[results,results122,go_sem,hc]) rfl ⟨_,_,rfl,?_,?_⟩
 ·refine z0r (base:=w.heap.size+1+1+1) ?_ (by omega);repeat' (refine ownsRow_setCell_below ?_ (by dsimp only;omega) _)
  exact ho
 ·repeat' (refine Below.setCell ?_ (by dsimp only;omega) _)
  exact z0v (by go_grown) hb
theorem q0R(i s q:Int)(a a':Option Addr)(cap cap':Nat)(zs:List ActD)(w:World)(h:ActRow w a zs)(h':ActRow w a' zs)(hl:zs.length≤1099511627776):
  Calls It 138 #[.agg #[H G i,H G s,H G q,Sl a zs.length cap],.agg #[H G i,H G s,H G q,Sl a' zs.length cap']] w fun e w'=>e=.returned (.bool true)∧Below w.heap.size w w':=by
 have h0:(i !=i)=false:=by simp
 have h1:(s !=s)=false:=by simp
 have h2:(q !=q)=false:=by simp
 go_enter func138,ntmps138
 go_wp2_with (go_at_call 187;refine(z89 a a' cap cap' zs _ (h.below (by go_grown)) (h'.below (by go_grown)) hl).mono ?_;rintro e w' ⟨rfl,hb⟩)
 go_ret;exact⟨rfl,z0v (by go_grown) hb⟩
def inW(n lo hi:Int):Bool:=decide (lo≤n) && decide (n≤hi)
def actF(x:ActD):Int:=
 if(inW x.kind 1 4=false)∨((x.kind==3)=true∧(x.val !=0)=true)then 1
 else if inW x.key 1 20=false∨inW x.val (-1000) 1000=false then 3 else 0
def z3f:List ActD→Int
 |[]=>0
 |x::r=>if actF x=0 then z3f r else actF x
def txnF(i s q:Int)(zs:List ActD):Int:=
 if inW i 1 200=false∨inW s 1 9=false∨inW q 1 99=false then 3
 else if zs.length<1∨4<zs.length then 2 else z3f zs
theorem z5n(zs:List ActD):∀k,(∀j,j<k→actF (zs.getD j z0e)=0)→k<zs.length→actF (zs.getD k z0e)≠0→z3f zs=actF (zs.getD k z0e):=by
 induction zs with
 |nil=>intro k _ h;simp at h
 |cons x r ih=>
  intro k h0 hk hne
  cases k with
  |zero=>simp[Va]at hne⊢;simp[z3f,hne]
  |succ k=>
   have hx:actF x=0:=by simpa[Va]using h0 0 (by omega)
   have:=ih k (fun j hj=>by simpa[Va]using h0 (j+1) (by omega)) (by simpa using hk) (by simpa[Va]using hne);simp only[z3f,hx,if_true];rw[this];simp[Va]
theorem z6E(zs:List ActD)(h:∀j,j<zs.length→actF (zs.getD j z0e)=0):z3f zs=0:=by
 induction zs with
 |nil=>rfl
 |cons x r ih=>
  have hx:actF x=0:=by simpa[Va]using h 0 (by simp)
  simp only[z3f,hx,if_true];exact ih (fun j hj=>by simpa[Va]using h (j+1) (by simpa using hj))
theorem z0M(n lo hi:Int)(w:World):
    Calls It 47 #[H G n,H G lo,H G hi] w fun e w'=>e=.returned (.bool (inW n lo hi))∧w'=w:=by
  unfold inW
  cases h1:decide (lo≤n)<;>cases h2:decide (n≤hi)<;>simp only[decide_eq_true_eq,decide_eq_false_iff_not]at h1 h2<;>
  (go_enter func47,ntmps47
   go_wp2
   go_ret;exact ⟨rfl,rfl⟩)
theorem z3J(n lo hi:Int)(w:World):
    Calls It 71 #[H G n,H G lo,H G hi] w fun e w'=>e=.returned (.bool (inW n lo hi))∧w'=w:=by
  unfold inW
  cases h1:decide (lo≤n)<;>cases h2:decide (n≤hi)<;>simp only[decide_eq_true_eq,decide_eq_false_iff_not]at h1 h2<;>
  (go_enter func71,ntmps71
   go_wp2
   go_ret;exact ⟨rfl,rfl⟩)
theorem z5o(k y v:Int):
  (inW k 1 4=false∧actF ⟨k,y,v⟩=1)∨(inW k 1 4=true∧(k==3)=true∧(v !=0)=true∧actF ⟨k,y,v⟩=1)∨
  (inW k 1 4=true∧(((k == 3)=true∧(v != 0)=false)∨(k == 3)=false) ∧
   ((inW y 1 20=false∧actF ⟨k,y,v⟩=3)∨(inW y 1 20=true∧inW v (-1000) 1000=false∧actF ⟨k,y,v⟩=3)∨(inW y 1 20=true∧inW v (-1000) 1000=true∧actF ⟨k,y,v⟩=0))):=by
 unfold actF
 cases h1:inW k 1 4<;>cases h2:(k==3)<;>cases h3:(v !=0)<;>cases h4:inW y 1 20<;>cases h5:inW v (-1000) 1000<;>simp[h1,h2,h3,h4,h5]
theorem z4G(k y v:Int)(w:World):
    Calls It 242 #[.agg #[H G k,H G y,H G v]] w fun e w'=>e=.returned (H G (actF ⟨k,y,v⟩))∧Below w.heap.size w w':=by
  rcases z5o k y v with⟨h1,h⟩|⟨h1,h2,h3,h⟩|⟨h1,⟨h2,h3⟩|h2,⟨h4,h⟩|⟨h4,h5,h⟩|⟨h4,h5,h⟩⟩<;>rw[h]<;>clear h<;>
  (go_enter func242,ntmps242
   go_wp2_with (go_at_call 47;refine(z0M _ _ _ _).mono ?_;rintro e w' ⟨rfl,rfl⟩)
   go_ret;exact ⟨rfl,by go_grown⟩)
theorem z74(b o:Nat)(k y v:Int)(w:World)(h0:w.cell? ⟨b,o,none⟩=some (H G k))(h1:w.cell? ⟨b,o+1,none⟩=some (H G y))(h2:w.cell? ⟨b,o+2,none⟩=some (H G v)):
    Calls It 195 #[.pointer (some ⟨b,o,none⟩)] w fun e w'=>e=.returned (H G (actF ⟨k,y,v⟩))∧w'=w:=by
  rcases z5o k y v with⟨h1,h⟩|⟨h1,h2,h3,h⟩|⟨h1,⟨h2,h3⟩|h2,⟨h4,h⟩|⟨h4,h5,h⟩|⟨h4,h5,h⟩⟩<;>rw[h]<;>clear h<;>
  (go_enter func195,ntmps195
   go_wp2_with (go_at_call 71;refine(z3J _ _ _ _).mono ?_;rintro e w' ⟨rfl,rfl⟩)
   go_ret;exact ⟨rfl,rfl⟩)
theorem z5p(i s q:Int)(zs:List ActD):
  (inW i 1 200=false∧txnF i s q zs=3)∨(inW i 1 200=true∧inW s 1 9=false∧txnF i s q zs=3)∨(inW i 1 200=true∧inW s 1 9=true∧inW q 1 99=false∧txnF i s q zs=3)∨
  (inW i 1 200=true∧inW s 1 9=true∧inW q 1 99=true∧((zs.length<1∧txnF i s q zs=2)∨(4<zs.length∧txnF i s q zs=2)∨(¬zs.length<1∧¬4<zs.length∧txnF i s q zs=z3f zs))):=by
 unfold txnF
 cases h1:inW i 1 200<;>cases h2:inW s 1 9<;>cases h3:inW q 1 99<;>simp only[Bool.false_eq_true,Bool.true_eq_false,reduceCtorEq,if_true,if_false,false_or,or_false,true_or,or_true,false_and,true_and,and_true,and_false]
 by_cases h4:zs.length<1<;>by_cases h5:4<zs.length<;>simp only[h4,h5,if_true,if_false,or_true,true_or,or_false,false_or,not_true_eq_false,not_false_eq_true,false_and,true_and,and_self]
theorem z2C(i s q:Int)(a:Option Addr)(cap:Nat)(zs:List ActD)(w:World)(h:ActRow w a zs)(hl:zs.length≤1048576):
    Calls It 228 #[.agg #[H G i,H G s,H G q,Sl a zs.length cap]] w fun e w'=>e=.returned (H G (txnF i s q zs))∧Below w.heap.size w w':=by
  rcases z5p i s q zs with⟨h1,h⟩|⟨h1,h2,h⟩|⟨h1,h2,h3,h⟩|⟨h1,h2,h3,⟨h4,h⟩|⟨h4,h⟩|⟨h4,h5,hf⟩⟩
  all_goals try
    (rw [h];clear h
     go_enter func228,ntmps228
     go_wp2_with (go_at_call 47;refine(z0M _ _ _ _).mono ?_;rintro e w' ⟨rfl,rfl⟩)
     go_ret;exact ⟨rfl,by go_grown⟩)
  rw[hf];clear hf;go_enter func228,ntmps228
  go_wp2_with (go_at_call 47;refine(z0M _ _ _ _).mono ?_;rintro e w' ⟨rfl,rfl⟩)
  go_loopw[35] (fun j wr=>∃k:Nat,k≤zs.length∧j=H G k∧Below w.heap.size w wr∧Hid (∀j,j<k→actF (zs.getD j z0e)=0)) (fun j _=>zs.length-(intOf j).toNat)
  case atStart=>exact⟨0,Nat.zero_le _,rfl,by go_grown,fun j hj=>absurd hj (Nat.not_lt_zero _)⟩
  case round=>
    obtain⟨k,hk,rfl,hb,HA⟩:=hrel;by_cases C:k<zs.length
    · obtain⟨b,N,rfl,L,x,y,A⟩:=(h.below hb).at k C;have M:=hb.size;by_cases hF:actF (zs.getD k z0e)=0
      · have HB:Hid (∀j,j<k+1→actF (zs.getD j z0e)=0):=by
          intro j hj;by_cases D:j=k
          · subst D;exact hF
          · exact HA.out j (by omega)
        have c:=z4G (zs.getD k z0e).kind (zs.getD k z0e).key (zs.getD k z0e).val;rw[show actF ⟨(zs.getD k z0e).kind,(zs.getD k z0e).key,(zs.getD k z0e).val⟩=0 from hF]at c;clear HA hF;generalize zs.getD k z0e=z at x y A c
        go_wp2_with (go_at_call 242;refine(c _).mono ?_;rintro e w' ⟨rfl,d⟩)
        go_roundw
        case rel=>exact⟨k+1,by omega,by go_num,z0v (by go_grown) d,HB⟩
        case measure=>simp[intOf];omega
      · have E:Hid (z3f zs=actF (zs.getD k z0e)):=z5n zs k HA.out C hF;have c:=z4G (zs.getD k z0e).kind (zs.getD k z0e).key (zs.getD k z0e).val;have J:(actF (zs.getD k z0e) !=0)=true:=by simpa using hF
        change∀w,Calls _ _ _ w fun e w'=>e=.returned (H G (actF (zs.getD k z0e)))∧_ at c
        clear HA hF;generalize actF (zs.getD k z0e)=r at c E J;generalize zs.getD k z0e=z at x y A c
        go_wp2_with (go_at_call 242;refine(c _).mono ?_;rintro e w' ⟨rfl,d⟩)
        go_ret;rw[E.out];exact⟨rfl,z0v (by go_grown) d⟩
    · have I:k=zs.length:=by omega
      subst I;have E:Hid (z3f zs=0):=z6E zs HA.out;clear HA
      go_wp2
      go_ret;rw[E.out];exact⟨rfl,hb⟩
structure Box4 (w:World) (b o:Nat) (x0 x1 x2 x3:Value):Prop where
 c0:w.cell? ⟨b,o,none⟩=some x0
 c1:w.cell? ⟨b,o+1,none⟩=some x1
 c2:w.cell? ⟨b,o+2,none⟩=some x2
 c3:w.cell? ⟨b,o+3,none⟩=some x3
theorem Box4.below{w w':World}{b o:Nat}{x0 x1 x2 x3:Value}(h:Box4 w b o x0 x1 x2 x3)(hb:Below w.heap.size w w'):Box4 w' b o x0 x1 x2 x3:=by
 have hlt:b<w.heap.size:=World.block_lt_of_cell? w ⟨b,o,none⟩ h.c0;exact⟨by rw[hb.cell (p:=⟨b,o,none⟩) hlt];exact h.c0,by rw[hb.cell (p:=⟨b,o+1,none⟩) hlt];exact h.c1,by rw[hb.cell (p:=⟨b,o+2,none⟩) hlt];exact h.c2,by rw[hb.cell (p:=⟨b,o+3,none⟩) hlt];exact h.c3⟩
theorem z5q(b o:Nat)(i s q:Int)(a:Option Addr)(cap:Nat)(zs:List ActD)(w:World)(hB:Box4 w b o (H G i) (H G s) (H G q) (Sl a zs.length cap))(h:ActRow w a zs)(hl:zs.length≤1048576):
    Calls It 159 #[.pointer (some ⟨b,o,none⟩)] w fun e w'=>e=.returned (H G (txnF i s q zs))∧w'=w:=by
  obtain⟨b0,b1,b2,b3⟩:=hB;rcases z5p i s q zs with⟨h1,h⟩|⟨h1,h2,h⟩|⟨h1,h2,h3,h⟩|⟨h1,h2,h3,⟨h4,h⟩|⟨h4,h⟩|⟨h4,h5,hf⟩⟩
  all_goals try
    (rw [h];clear h
     go_enter func159,ntmps159
     go_wp2_with (go_at_call 71;refine(z3J _ _ _ _).mono ?_;rintro e w' ⟨rfl,rfl⟩)
     go_ret;exact ⟨rfl,rfl⟩)
  rw[hf];clear hf;go_enter func159,ntmps159
  go_wp2_with (go_at_call 71;refine(z3J _ _ _ _).mono ?_;rintro e w' ⟨rfl,rfl⟩)
  clear b0 b1 b2
  go_loop[3] (fun j=>∃k:Nat,k≤zs.length∧j=H G k∧Hid (∀j,j<k→actF (zs.getD j z0e)=0)) (fun j=>zs.length-(intOf j).toNat)
  case atStart=>exact⟨0,Nat.zero_le _,rfl,fun j hj=>absurd hj (Nat.not_lt_zero _)⟩
  case round=>
    obtain⟨k,hk,rfl,HA⟩:=hrel;by_cases z:k<zs.length
    · obtain⟨b',A,rfl,J,d,x,y⟩:=h.at k z;by_cases hF:actF (zs.getD k z0e)=0
      · have HB:Hid (∀j,j<k+1→actF (zs.getD j z0e)=0):=by
          intro j hj;by_cases C:j=k
          · subst C;exact hF
          · exact HA.out j (by omega)
        have c:=z74 b' (A+k*3) (zs.getD k z0e).kind (zs.getD k z0e).key (zs.getD k z0e).val _ d x y;rw[show actF ⟨(zs.getD k z0e).kind,(zs.getD k z0e).key,(zs.getD k z0e).val⟩=0 from hF]at c;clear HA hF d x y
        go_wp2_with (go_at_call 195;refine c.mono ?_;rintro e w' ⟨rfl,rfl⟩)
        go_round
        case rel=>exact⟨k+1,by omega,by go_num,HB⟩
        case measure=>simp[intOf];omega
      · have E:Hid (z3f zs=actF (zs.getD k z0e)):=z5n zs k HA.out z hF;have c:=z74 b' (A+k*3) (zs.getD k z0e).kind (zs.getD k z0e).key (zs.getD k z0e).val _ d x y;have I:(actF (zs.getD k z0e) !=0)=true:=by simpa using hF
        change Calls _ _ _ _ fun e w'=>e=.returned (H G (actF (zs.getD k z0e)))∧_ at c
        clear HA hF d x y;generalize actF (zs.getD k z0e)=r at c E I
        go_wp2_with (go_at_call 195;refine c.mono ?_;rintro e w' ⟨rfl,rfl⟩)
        go_ret;rw[E.out];exact⟨rfl,rfl⟩
    · have D:k=zs.length:=by omega
      subst D;have E:Hid (z3f zs=0):=z6E zs HA.out;clear HA
      go_wp2
      go_ret;rw[E.out];exact⟨rfl,rfl⟩
theorem Box4.zero{w:World}{b:Nat}{x0 x1 x2 x3:Value}(h:Box4 w b 0 x0 x1 x2 x3):w.cell? ⟨b,0,none⟩=some x0∧w.cell? ⟨b,1,none⟩=some x1∧w.cell? ⟨b,2,none⟩=some x2∧w.cell? ⟨b,3,none⟩=some x3:=
 ⟨h.c0,by simpa using h.c1,by simpa using h.c2,by simpa using h.c3⟩
theorem Box4.lat{w:World}{b:Nat}{x0 x1 x2 x3:Value}(h:Box4 w b 0 x0 x1 x2 x3):(∀u:Lat w,u.val.cell? ⟨b,0,none⟩=some x0)∧(∀u:Lat w,u.val.cell? ⟨b,1,none⟩=some x1)∧(∀u:Lat w,u.val.cell? ⟨b,2,none⟩=some x2)∧(∀u:Lat w,u.val.cell? ⟨b,3,none⟩=some x3):=
 ⟨z0a h.zero.1,z0a h.zero.2.1,z0a h.zero.2.2.1,z0a h.zero.2.2.2⟩
def Blk(w:World)(b:Nat)(t:TypeId)(cs:Array Value):Prop:=w.heap[b]?=some (.cells cs t (0,0))
theorem Blk.lt{w:World}{b:Nat}{t:TypeId}{cs:Array Value}(h:Blk w b t cs):b<w.heap.size:=(Array.getElem?_eq_some_iff.1 h).1
theorem Blk.new(w:World)(t:TypeId)(cs:Array Value):Blk (w.alloc (.cells cs t)) w.heap.size t cs:=by
 show(w.heap.push _)[w.heap.size]?=_;simp
theorem Blk.below{w w':World}{b:Nat}{t:TypeId}{cs:Array Value}(h:Blk w b t cs)(hb:Below w.heap.size w w'):Blk w' b t cs:=(hb.block b h.lt).trans h
theorem Blk.grown{w w':World}{b:Nat}{t:TypeId}{cs:Array Value}{row:Option Nat}(h:Blk w b t cs)(hg:w.grownBy w' row)(hne:some b≠row):Blk w' b t cs:=(hg.block b h.lt hne).trans h
theorem Blk.cell{w:World}{b:Nat}{t:TypeId}{cs:Array Value}(h:Blk w b t cs)(j:Nat)(x:Value)(hx:cs[j]?=some x):w.cell? ⟨b,j,none⟩=some x:=by
 unfold Blk at h;simp[World.cell?,h,hx]
theorem Blk.frozen{w:World}{b:Nat}{t:TypeId}{cs:Array Value}(h:Blk w b t cs)(j:Nat):w.frozen? ⟨b,j,none⟩=false:=by
 unfold Blk at h;simp[World.frozen?,h]
theorem Blk.lat{w:World}{b:Nat}{t:TypeId}{cs:Array Value}(h:Blk w b t cs)(j:Nat)(x:Value)(hx:cs[j]?=some x):∀u:Lat w,u.val.cell? ⟨b,j,none⟩=some x:=z0a (h.cell j x hx)
structure Only (lo hi:Nat) (w w':World):Prop where
 os:w'.os=w.os
 tape:w'.tape=w.tape
 output:w'.output=w.output
 size:w.heap.size≤w'.heap.size
 block:∀k,k<w.heap.size→(k<lo∨hi≤k)→w'.heap[k]?=w.heap[k]?
theorem z3K{w w':World}{row:Option Nat}{lo hi:Nat}(hg:w.grownBy w' row)(h:∀g,row=some g→lo≤g∧g<hi):Only lo hi w w':=
 ⟨hg.os,hg.tape,hg.output,hg.size,fun k hk hc=>hg.block k hk (fun e=>by have:=h k e.symm;omega)⟩
theorem Only.refl(lo hi:Nat)(w:World):Only lo hi w w:=⟨rfl,rfl,rfl,Nat.le_refl _,fun _ _ _=>rfl⟩
theorem Only.trans{lo hi:Nat}{a b c:World}(h:Only lo hi a b)(k:Only lo hi b c):Only lo hi a c:=
 ⟨k.os.trans h.os,k.tape.trans h.tape,k.output.trans h.output,Nat.le_trans h.size k.size,fun i hi hc=>(k.block i (Nat.lt_of_lt_of_le hi h.size) hc).trans (h.block i hi hc)⟩
theorem Only.of_below{lo hi:Nat}{w w':World}(h:Below w.heap.size w w'):Only lo hi w w':=⟨h.os,h.tape,h.output,h.size,fun k hk _=>h.block k hk⟩
theorem z4g{B lo hi:Nat}{a w w':World}(h:Below B a w)(ho:Only lo hi w w')(hB:B≤lo)(hs:B≤w.heap.size):Below B a w':=
 ⟨ho.os.trans h.os,ho.tape.trans h.tape,ho.output.trans h.output,Nat.le_trans h.size ho.size,fun k hk=>(ho.block k (by omega) (Or.inl (by omega))).trans (h.block k hk)⟩
theorem z2h{w w':World}{lo hi base e size n:Nat}{v:Value}{xs:List Value}(h:w.ownsRow base e size v n xs)(ho:Only lo hi w w')(hb:hi≤base):w'.ownsRow base e size v n xs:=by
 refine⟨h.1,?_⟩;rcases h.2 with h2|⟨g,cap,cur,hv,hg,hh,r⟩
 ·exact Or.inl h2
 ·exact Or.inr ⟨g,cap,cur,hv,hg,by rw[ho.block g (Array.getElem?_eq_some_iff.1 hh).1 (Or.inr (by omega))];exact hh,r⟩
theorem z6F{w w':World}{base base' e e' n n' s s':Nat}{v v':Value}{xs xs':List Value}(h:w.ownsRow base e s v n xs)(h':w'.ownsRow base' e' s' v' n' xs')(hb:w.heap.size≤base'):v.ownBlock=none∨v.ownBlock≠v'.ownBlock:=by
 cases hv:v.ownBlock with
 |none=>exact Or.inl rfl
 |some g=>
  right;intro e;have h1:=(h.lt g hv).2;have h2:=(h'.lt g e.symm).1;omega
theorem z9a{w w':World}{base base' e e' n n' s s':Nat}{v v':Value}{xs xs':List Value}(h:w.ownsRow base e s v n xs)(h':w'.ownsRow base' e' s' v' n' xs')(hb:w.heap.size≤base'):v'.ownBlock=none∨v'.ownBlock≠v.ownBlock:=by
 rcases z6F h h' hb with e|e
 ·cases hv:v'.ownBlock with
  |none=>exact Or.inl rfl
  |some g=>right;rw[e];simp
 ·exact Or.inr (fun k=>e k.symm)
theorem z97{w:World}{base e n b s:Nat}{v:Value}{xs:List Value}(h:w.ownsRow base e s v n xs)(hb:b<base∨w.heap.size≤b):some b≠v.ownBlock:=by
 intro e;have h1:=h.lt b e.symm;omega
theorem Blk.cel2{w:World}{b:Nat}{t:TypeId}{x0 x1:Value}{r:List Value}(h:Blk w b t (x0::x1::r).toArray):w.cell? ⟨b,0,none⟩=some x0∧w.cell? ⟨b,1,none⟩=some x1:=
 ⟨h.cell 0 _ rfl,h.cell 1 _ rfl⟩
theorem Blk.lts2{w:World}{b:Nat}{t:TypeId}{x0 x1:Value}{r:List Value}(h:Blk w b t (x0::x1::r).toArray):(∀u:Lat w,u.val.cell? ⟨b,0,none⟩=some x0)∧(∀u:Lat w,u.val.cell? ⟨b,1,none⟩=some x1):=
 ⟨h.lat 0 _ rfl,h.lat 1 _ rfl⟩
theorem Blk.frz2{w:World}{b:Nat}{t:TypeId}{cs:Array Value}(h:Blk w b t cs):w.frozen? ⟨b,0,none⟩=false∧w.frozen? ⟨b,1,none⟩=false:=
 ⟨h.frozen 0,h.frozen 1⟩
theorem Blk.cel3{w:World}{b:Nat}{t:TypeId}{x0 x1 x2:Value}{r:List Value}(h:Blk w b t (x0::x1::x2::r).toArray):w.cell? ⟨b,0,none⟩=some x0∧w.cell? ⟨b,1,none⟩=some x1∧w.cell? ⟨b,2,none⟩=some x2:=
 ⟨h.cell 0 _ rfl,h.cell 1 _ rfl,h.cell 2 _ rfl⟩
theorem Blk.frz3{w:World}{b:Nat}{t:TypeId}{cs:Array Value}(h:Blk w b t cs):w.frozen? ⟨b,0,none⟩=false∧w.frozen? ⟨b,1,none⟩=false∧w.frozen? ⟨b,2,none⟩=false:=
 ⟨h.frozen 0,h.frozen 1,h.frozen 2⟩
theorem Blk.cel4{w:World}{b:Nat}{t:TypeId}{x0 x1 x2 x3:Value}{r:List Value}(h:Blk w b t (x0::x1::x2::x3::r).toArray):w.cell? ⟨b,0,none⟩=some x0∧w.cell? ⟨b,1,none⟩=some x1∧w.cell? ⟨b,2,none⟩=some x2∧w.cell? ⟨b,3,none⟩=some x3:=
 ⟨h.cell 0 _ rfl,h.cell 1 _ rfl,h.cell 2 _ rfl,h.cell 3 _ rfl⟩
theorem Blk.lts4{w:World}{b:Nat}{t:TypeId}{x0 x1 x2 x3:Value}{r:List Value}(h:Blk w b t (x0::x1::x2::x3::r).toArray):(∀u:Lat w,u.val.cell? ⟨b,0,none⟩=some x0)∧(∀u:Lat w,u.val.cell? ⟨b,1,none⟩=some x1)∧(∀u:Lat w,u.val.cell? ⟨b,2,none⟩=some x2)∧(∀u:Lat w,u.val.cell? ⟨b,3,none⟩=some x3):=
 ⟨h.lat 0 _ rfl,h.lat 1 _ rfl,h.lat 2 _ rfl,h.lat 3 _ rfl⟩
theorem Blk.frz4{w:World}{b:Nat}{t:TypeId}{cs:Array Value}(h:Blk w b t cs):w.frozen? ⟨b,0,none⟩=false∧w.frozen? ⟨b,1,none⟩=false∧w.frozen? ⟨b,2,none⟩=false∧w.frozen? ⟨b,3,none⟩=false:=
 ⟨h.frozen 0,h.frozen 1,h.frozen 2,h.frozen 3⟩
theorem Blk.cel5{w:World}{b:Nat}{t:TypeId}{x0 x1 x2 x3 x4:Value}{r:List Value}(h:Blk w b t (x0::x1::x2::x3::x4::r).toArray):w.cell? ⟨b,0,none⟩=some x0∧w.cell? ⟨b,1,none⟩=some x1∧w.cell? ⟨b,2,none⟩=some x2∧w.cell? ⟨b,3,none⟩=some x3∧w.cell? ⟨b,4,none⟩=some x4:=
 ⟨h.cell 0 _ rfl,h.cell 1 _ rfl,h.cell 2 _ rfl,h.cell 3 _ rfl,h.cell 4 _ rfl⟩
theorem Blk.lts5{w:World}{b:Nat}{t:TypeId}{x0 x1 x2 x3 x4:Value}{r:List Value}(h:Blk w b t (x0::x1::x2::x3::x4::r).toArray):(∀u:Lat w,u.val.cell? ⟨b,0,none⟩=some x0)∧(∀u:Lat w,u.val.cell? ⟨b,1,none⟩=some x1)∧(∀u:Lat w,u.val.cell? ⟨b,2,none⟩=some x2)∧(∀u:Lat w,u.val.cell? ⟨b,3,none⟩=some x3)∧(∀u:Lat w,u.val.cell? ⟨b,4,none⟩=some x4):=
 ⟨h.lat 0 _ rfl,h.lat 1 _ rfl,h.lat 2 _ rfl,h.lat 3 _ rfl,h.lat 4 _ rfl⟩
theorem Blk.frz5{w:World}{b:Nat}{t:TypeId}{cs:Array Value}(h:Blk w b t cs):w.frozen? ⟨b,0,none⟩=false∧w.frozen? ⟨b,1,none⟩=false∧w.frozen? ⟨b,2,none⟩=false∧w.frozen? ⟨b,3,none⟩=false∧w.frozen? ⟨b,4,none⟩=false:=
 ⟨h.frozen 0,h.frozen 1,h.frozen 2,h.frozen 3,h.frozen 4⟩
theorem Blk.cel6{w:World}{b:Nat}{t:TypeId}{x0 x1 x2 x3 x4 x5:Value}{r:List Value}(h:Blk w b t (x0::x1::x2::x3::x4::x5::r).toArray):w.cell? ⟨b,0,none⟩=some x0∧w.cell? ⟨b,1,none⟩=some x1∧w.cell? ⟨b,2,none⟩=some x2∧w.cell? ⟨b,3,none⟩=some x3∧w.cell? ⟨b,4,none⟩=some x4∧w.cell? ⟨b,5,none⟩=some x5:=
 ⟨h.cell 0 _ rfl,h.cell 1 _ rfl,h.cell 2 _ rfl,h.cell 3 _ rfl,h.cell 4 _ rfl,h.cell 5 _ rfl⟩
theorem Blk.cel7{w:World}{b:Nat}{t:TypeId}{x0 x1 x2 x3 x4 x5 x6:Value}{r:List Value}(h:Blk w b t (x0::x1::x2::x3::x4::x5::x6::r).toArray):w.cell? ⟨b,0,none⟩=some x0∧w.cell? ⟨b,1,none⟩=some x1∧w.cell? ⟨b,2,none⟩=some x2∧w.cell? ⟨b,3,none⟩=some x3∧w.cell? ⟨b,4,none⟩=some x4∧w.cell? ⟨b,5,none⟩=some x5∧w.cell? ⟨b,6,none⟩=some x6:=
 ⟨h.cell 0 _ rfl,h.cell 1 _ rfl,h.cell 2 _ rfl,h.cell 3 _ rfl,h.cell 4 _ rfl,h.cell 5 _ rfl,h.cell 6 _ rfl⟩
theorem Blk.lts7{w:World}{b:Nat}{t:TypeId}{x0 x1 x2 x3 x4 x5 x6:Value}{r:List Value}(h:Blk w b t (x0::x1::x2::x3::x4::x5::x6::r).toArray):(∀u:Lat w,u.val.cell? ⟨b,0,none⟩=some x0)∧(∀u:Lat w,u.val.cell? ⟨b,1,none⟩=some x1)∧(∀u:Lat w,u.val.cell? ⟨b,2,none⟩=some x2)∧(∀u:Lat w,u.val.cell? ⟨b,3,none⟩=some x3)∧(∀u:Lat w,u.val.cell? ⟨b,4,none⟩=some x4)∧(∀u:Lat w,u.val.cell? ⟨b,5,none⟩=some x5)∧(∀u:Lat w,u.val.cell? ⟨b,6,none⟩=some x6):=
 ⟨h.lat 0 _ rfl,h.lat 1 _ rfl,h.lat 2 _ rfl,h.lat 3 _ rfl,h.lat 4 _ rfl,h.lat 5 _ rfl,h.lat 6 _ rfl⟩
theorem Blk.frz7{w:World}{b:Nat}{t:TypeId}{cs:Array Value}(h:Blk w b t cs):w.frozen? ⟨b,0,none⟩=false∧w.frozen? ⟨b,1,none⟩=false∧w.frozen? ⟨b,2,none⟩=false∧w.frozen? ⟨b,3,none⟩=false∧w.frozen? ⟨b,4,none⟩=false∧w.frozen? ⟨b,5,none⟩=false∧w.frozen? ⟨b,6,none⟩=false:=
 ⟨h.frozen 0,h.frozen 1,h.frozen 2,h.frozen 3,h.frozen 4,h.frozen 5,h.frozen 6⟩
theorem Blk.cel9{w:World}{b:Nat}{t:TypeId}{x0 x1 x2 x3 x4 x5 x6 x7 x8:Value}{r:List Value}(h:Blk w b t (x0::x1::x2::x3::x4::x5::x6::x7::x8::r).toArray):w.cell? ⟨b,0,none⟩=some x0∧w.cell? ⟨b,1,none⟩=some x1∧w.cell? ⟨b,2,none⟩=some x2∧w.cell? ⟨b,3,none⟩=some x3∧w.cell? ⟨b,4,none⟩=some x4∧w.cell? ⟨b,5,none⟩=some x5∧w.cell? ⟨b,6,none⟩=some x6∧w.cell? ⟨b,7,none⟩=some x7∧w.cell? ⟨b,8,none⟩=some x8:=
 ⟨h.cell 0 _ rfl,h.cell 1 _ rfl,h.cell 2 _ rfl,h.cell 3 _ rfl,h.cell 4 _ rfl,h.cell 5 _ rfl,h.cell 6 _ rfl,h.cell 7 _ rfl,h.cell 8 _ rfl⟩
theorem Blk.set{w:World}{b:Nat}{t:TypeId}{cs:Array Value}(h:Blk w b t cs)(j:Nat)(x:Value):Blk (w.setCell ⟨b,j,none⟩ x) b t (cs.setIfInBounds j x):=Go.Joins.block_setCell (i:=j) (v:=x) h
theorem Blk.other{w:World}{b b':Nat}{t:TypeId}{cs:Array Value}(h:Blk w b t cs)(hne:b≠b')(j:Nat)(x:Value):Blk (w.setCell ⟨b',j,none⟩ x) b t cs:=(Below.heap_setCell w ⟨b',j,none⟩ x b hne).trans h
end Go.Proofs.YtjjoahhnkpjolaaGreatDoor

import Derived.Test.YtjjoahhnkpjolaaGreatDoorONAO
import Derived.Maps.Ext
set_option linter.unusedVariables false
set_option linter.unusedSimpArgs false
set_option maxRecDepth 100000
set_option maxHeartbeats 1000000
namespace Go.Proofs.YtjjoahhnkpjolaaGreatDoor
open Go.RowKit Go.BigFrame
open List renaming getD->S
open Go.Proofs.Tryz renaming prog->K
open Go.Proofs.Tryz
section
open Go.Maps
def hasI(xs:List ItemD)(k:Int):Bool:=xs.any (fun x=>x.key==k)
def valI(xs:List ItemD)(k:Int):Int:=match xs.find? (fun x=>x.key==k)with|some x=>x.val|none=>0
def z86(x:ItemD):List ItemD→List ItemD
 |[]=>[x]
 |y::r=>if x.key<y.key then x::y::r else y::z86 x r
def delI(xs:List ItemD)(k:Int):List ItemD:=xs.filter (fun y=>!(y.key==k))
def setI(xs:List ItemD)(x:ItemD):List ItemD:=z86 x (delI xs x.key)
structure Good (xs:List ItemD):Prop where
 rise:xs.Pairwise (fun a b=>a.key<b.key)
 key:∀x∈xs,1≤x.key∧x.key≤20
 val:∀x∈xs,-20000≤x.val∧x.val≤20000
theorem z34{xs:List ItemD}{k:Nat}(h:k<xs.length):xs.getD k z0b∈xs:=by simp[S,h]
theorem z37{xs:List ItemD}(h:itemsF xs=0):xs.length≤8∧Good xs:=by
 have h8:¬8<xs.length:=by
  intro h8;simp[itemsF,h8]at h
 have hz:=z4N (itF xs) xs.length (by simpa[itemsF,h8]using h);have hw:∀j,j<xs.length→(1≤(xs.getD j z0b).key∧(xs.getD j z0b).key≤20)∧(-20000≤(xs.getD j z0b).val∧(xs.getD j z0b).val≤20000)∧prevK xs j<(xs.getD j z0b).key:=by
  intro j hj;rcases z7p xs j with⟨_,e⟩|⟨_,_,e⟩|⟨_,_,_,e⟩|⟨h1,h2,h3,e⟩
  ·rw[hz j hj]at e;simp at e
  ·rw[hz j hj]at e;simp at e
  ·rw[hz j hj]at e;simp at e
  ·simp[inW]at h1 h2;exact⟨by simpa using h1,by simpa using h2,by omega⟩
 have hmem:∀x∈xs,∃j,j<xs.length∧x=xs.getD j z0b:=by
  intro x hx;obtain⟨j,hj,rfl⟩:=List.mem_iff_getElem.1 hx;exact⟨j,hj,by simp[S,hj]⟩
 refine⟨by omega,?_,?_,?_⟩
 ·have step:∀j,j+1<xs.length→(xs.getD j z0b).key<(xs.getD (j+1) z0b).key:=by
   intro j hj;have:=(hw (j+1) hj).2.2;simpa[prevK]using this
  have far:∀d j,j+d+1<xs.length→(xs.getD j z0b).key<(xs.getD (j+d+1) z0b).key:=by
   intro d;induction d with
   |zero=>intro j hj;exact step j hj
   |succ d ih=>
    intro j hj;have h1:=ih j (by omega);have h2:=step (j+d+1) (by omega);rw[show j+(d+1)+1=j+d+1+1 by omega];omega
  rw[List.pairwise_iff_getElem];intro i j hi hj hij;have:=far (j-i-1) i (by omega);rw[show i+(j-i-1)+1=j by omega]at this;simpa[S,hi,hj]using this
 ·intro x hx;obtain⟨j,hj,rfl⟩:=hmem x hx;exact(hw j hj).1
 ·intro x hx;obtain⟨j,hj,rfl⟩:=hmem x hx;exact(hw j hj).2.1
theorem q20{xs:List ItemD}(hl:xs.length≤8)(g:Good xs):itemsF xs=0:=by
 unfold itemsF;rw[if_neg (by omega)];refine z11 _ _ ?_;intro j hj;have hm:=z34 hj;have hk:=g.key _ hm;have hv:=g.val _ hm;have hp:prevK xs j<(xs.getD j z0b).key:=by
  unfold prevK;split
  ·omega
  ·have:=(List.pairwise_iff_getElem.1 g.rise) (j-1) j (by omega) hj (by omega);simpa[S,hj,show j-1<xs.length by omega]using this
 have hw:=z7p xs j;generalize xs.getD j z0b=x at hk hv hp hw;rcases hw with⟨h1,_⟩|⟨_,h2,_⟩|⟨_,_,h3,_⟩|⟨_,_,_,e⟩
 ·simp[inW]at h1;omega
 ·simp[inW]at h2;omega
 ·omega
 ·exact e
theorem mem_insI{x y:ItemD}:∀ {l:List ItemD},y∈z86 x l↔y=x∨y∈l
 |[]=>by simp[z86]
 |z::r=>by
  simp only[z86];split
  ·simp
  ·simp only[List.mem_cons,mem_insI (l:=r)];constructor
   ·rintro(h|h|h)<;>simp[h]
   ·rintro(h|h|h)<;>simp[h]
theorem z8P{x:ItemD}:∀ {l:List ItemD},l.Pairwise (fun a b=>a.key<b.key)→(∀y∈l,y.key≠x.key)→(z86 x l).Pairwise (fun a b=>a.key<b.key)
 |[],_,_=>by simp[z86]
 |z::r,h,hne=>by
  rw[List.pairwise_cons]at h;simp only[z86];split
  ·rename_i hlt
   rw[List.pairwise_cons];refine⟨?_,List.pairwise_cons.2 h⟩;intro y hy;rcases List.mem_cons.1 hy with rfl|hy
   ·exact hlt
   ·have:=h.1 y hy;omega
  ·rename_i hlt
   rw[List.pairwise_cons];refine⟨?_,z8P h.2 (fun y hy=>hne y (by simp[hy]))⟩;intro y hy;rcases mem_insI.1 hy with rfl|hy
   ·have:=hne z (by simp);omega
   ·exact h.1 y hy
theorem mem_delI{xs:List ItemD}{k:Int}{y:ItemD}:y∈delI xs k↔y∈xs∧y.key≠k:=by simp[delI]
theorem Good.del{xs:List ItemD}(g:Good xs)(k:Int):Good (delI xs k):=
 ⟨g.rise.filter _,fun x hx=>g.key x (mem_delI.1 hx).1,fun x hx=>g.val x (mem_delI.1 hx).1⟩
theorem Good.set{xs:List ItemD}(g:Good xs){x:ItemD}(hk:1≤x.key∧x.key≤20)(hv:-20000≤x.val∧x.val≤20000):Good (setI xs x):=by
 refine⟨z8P (g.del x.key).rise (fun y hy=>(mem_delI.1 hy).2),?_,?_⟩
 ·intro y hy;rcases mem_insI.1 hy with rfl|hy
  ·exact hk
  ·exact g.key y (mem_delI.1 hy).1
 ·intro y hy;rcases mem_insI.1 hy with rfl|hy
  ·exact hv
  ·exact g.val y (mem_delI.1 hy).1
theorem Good.valI{xs:List ItemD}(g:Good xs)(k:Int):-20000≤valI xs k∧valI xs k≤20000:=by
 unfold Go.Proofs.YtjjoahhnkpjolaaGreatDoor.valI
 cases h:xs.find? (fun x=>x.key==k)with
 |none=>simp
 |some x=>exact g.val x (List.mem_of_find?_eq_some h)
def q21(x:ItemD):Lit × DataW Unit:=(.int .i64 x.key,.lit (.int .i64 x.val))
def z1c(xs:List ItemD):DataW Unit:=.map (xs.map q21)
theorem z3F(a b:Int):(Lit.int .i64 a).sameKey (.int .i64 b)=(a==b):=by
 simp[Lit.sameKey];rfl
theorem z2e(xs:List ItemD):Maps.size (z1c xs)=xs.length:=by simp[z1c,Maps.size_eq]
theorem z5V(xs:List ItemD)(k:Int):Maps.has (z1c xs) (.int .i64 k)=hasI xs k:=by
 rw[z1c,Maps.has_eq,List.any_map];unfold hasI
 congr 1
 funext x
 exact z3F x.key k
theorem z7J(xs:List ItemD)(k:Int):(z1c xs).atKey (.int .i64 k) (.lit (.int .i64 0))=.lit (.int .i64 (valI xs k)):=by
 unfold z1c DataW.atKey valI;dsimp only;rw[List.find?_map];have e:((fun p:Lit × DataW Unit=>p.1.sameKey (.int .i64 k)) ∘ q21)=fun x:ItemD=>x.key==k:=by
  funext x
  exact z3F x.key k
 rw[e]
 cases xs.find? (fun x=>x.key==k)<;>rfl
theorem z6T(x:ItemD):∀l:List ItemD,DataW.insert (q21 x) (l.map q21)=(z86 x l).map q21
 |[]=>rfl
 |y::r=>by
  simp only[List.map_cons,DataW.insert,z86];have e:(q21 x).1.before (q21 y).1=decide (x.key<y.key):=rfl;rw[e];by_cases h:x.key<y.key
  ·simp[h]
  ·simp[h,z6T x r]
theorem z5W(xs:List ItemD)(k:Int):(xs.map q21).filter (fun p=>!p.1.sameKey (.int .i64 k))=(delI xs k).map q21:=by
 rw[List.filter_map,delI]
 congr 1
 congr 1
 funext x
 exact congrArg (!·) (z3F x.key k)
theorem z38(xs:List ItemD)(k v:Int):(z1c xs).put (.int .i64 k) (.lit (.int .i64 v))=z1c (setI xs ⟨k,v⟩):=by
 unfold z1c DataW.put;dsimp only;rw[z5W,show((Lit.int .i64 k,DataW.lit (Lit.int .i64 v)):Lit × DataW Unit)=q21 ⟨k,v⟩from rfl,z6T];rfl
theorem q22(xs:List ItemD)(k:Int):(z1c xs).del (.int .i64 k)=z1c (delI xs k):=by
 unfold z1c DataW.del;dsimp only;rw[z5W]
theorem q1x(xs:List ItemD):intKeys (z1c xs)=xs.map ItemD.key:=by
 simp only[z1c,intKeys,List.map_map];rfl
theorem q1y{xs:List ItemD}(h:xs.Pairwise (fun a b=>a.key<b.key)):Maps.Tidy (z1c xs):=by
 refine⟨_,rfl,?_⟩;rw[List.pairwise_map];refine h.imp ?_;intro a b hab e;simp only[q21,Lit.int.injEq,true_and]at e;omega
theorem z5X{xs:List ItemD}(g:Good xs)(x:ItemD):(setI xs x).length=if hasI xs x.key then xs.length else xs.length+1:=by
 have:=Maps.size_put (k:=.int .i64 x.key) (q1y g.rise) (.lit (.int .i64 x.val));rw[z38,z2e,z5V,z2e]at this;exact this
theorem z5Y(xs:List ItemD)(k:Int):(delI xs k).length≤xs.length:=List.length_filter_le _ _
def setR(x:ItemD):Bool→List ItemD→List ItemD
 |d,[]=>if d then []else [x]
 |d,y::r=>(if !d && decide (x.key≤y.key)then [x]else [])++((if y.key==x.key then []else [y])++setR x (d||decide (x.key≤y.key)) r)
theorem z5Z(x:ItemD):∀l:List ItemD,setR x true l=delI l x.key
 |[]=>rfl
 |y::r=>by
  have ih:=z5Z x r;unfold delI at ih⊢;simp only[setR,Bool.not_true,Bool.false_and,Bool.true_or,List.filter_cons,ih]
  cases h:(y.key==x.key)<;>simp
theorem q4d{x:ItemD}:∀ {l:List ItemD},(∀y∈l,x.key<y.key)→z86 x l=x::l
 |[],_=>rfl
 |y::r,h=>by simp[z86,h y (by simp)]
theorem z6U(x:ItemD):∀ {l:List ItemD},l.Pairwise (fun a b=>a.key<b.key)→setR x false l=setI l x
 |[],_=>rfl
 |y::r,h=>by
  rw[List.pairwise_cons]at h;have ih:=z6U x h.2;simp only[setR,Bool.not_false,Bool.true_and,Bool.false_or];by_cases h1:y.key=x.key
  ·have e:(y.key==x.key)=true:=by simp[h1]
   have e2:decide (x.key≤y.key)=true:=by simp[h1]
   rw[e,e2,z5Z];unfold setI;have e3:delI (y::r) x.key=delI r x.key:=by simp[delI,h1]
   rw[e3,q4d (fun z hz=>by have:=h.1 z (mem_delI.1 hz).1;omega)];simp
  ·have e:(y.key==x.key)=false:=by simp[h1]
   have e3:delI (y::r) x.key=y::delI r x.key:=by simp[delI,h1]
   by_cases h2:x.key≤y.key
   ·have e2:decide (x.key≤y.key)=true:=by simp[h2]
    rw[e,e2,z5Z];unfold setI;rw[e3];simp[z86,show x.key<y.key by omega]
   ·have e2:decide (x.key≤y.key)=false:=by simp[h2]
    rw[e,e2,ih];unfold setI;rw[e3];simp[z86,show¬x.key<y.key by omega]
def layC(xs:List ItemD)(k v:Int):Int:=if inW v (-20000) 20000=false then 3 else if hasI xs k=false∧8≤xs.length then 7 else 0
def actC(xs:List ItemD)(a:ActD):Int:=
 if a.kind=1 then layC xs a.key a.val else if a.kind=2 then layC xs a.key (valI xs a.key+a.val)
 else if a.kind=3 then(if hasI xs a.key=true then 0 else 4)else(if hasI xs a.key=true∧valI xs a.key=a.val then 0 else 9)
def actN(xs:List ItemD)(a:ActD):List ItemD:=
 if a.kind=1 then setI xs ⟨a.key,a.val⟩else if a.kind=2 then setI xs ⟨a.key,valI xs a.key+a.val⟩else if a.kind=3 then delI xs a.key else xs
theorem z2f{a:ActD}(h:actF a=0):(1≤a.kind∧a.kind≤4)∧(1≤a.key∧a.key≤20)∧(-1000≤a.val∧a.val≤1000):=by
 obtain⟨k,y,v⟩:=a;rcases z5o k y v with⟨_,e⟩|⟨_,_,_,e⟩|⟨h1,_,⟨_,e⟩|⟨_,_,e⟩|⟨h4,h5,_⟩⟩
 ·rw[h]at e;simp at e
 ·rw[h]at e;simp at e
 ·rw[h]at e;simp at e
 ·rw[h]at e;simp at e
 ·simp[inW]at h1 h4 h5;exact⟨h1,h4,h5⟩
theorem q0w{xs:List ItemD}{k v:Int}(hl:xs.length≤8)(g:Good xs)(hk:1≤k∧k≤20)(h:layC xs k v=0):(setI xs ⟨k,v⟩).length≤8∧Good (setI xs ⟨k,v⟩):=by
 unfold layC at h;split at h
 ·simp at h
 ·rename_i hv
  split at h
  ·simp at h
  ·rename_i hh
   simp[inW]at hv;refine⟨?_,g.set hk (by simpa using hv)⟩;rw[z5X g];dsimp only
   cases e:hasI xs k
   ·simp[e]at hh⊢;omega
   ·simp;omega
theorem z3b{xs:List ItemD}{a:ActD}(hl:xs.length≤8)(g:Good xs)(ha:actF a=0)(h:actC xs a=0):(actN xs a).length≤8∧Good (actN xs a):=by
 obtain⟨hk,hy,hv⟩:=z2f ha;unfold actC at h;unfold actN;split
 ·rename_i e;rw[if_pos e]at h;exact q0w hl g hy h
 ·rename_i e;rw[if_neg e]at h
  split
  ·rename_i e;rw[if_pos e]at h;exact q0w hl g hy h
  ·split
   ·exact⟨Nat.le_trans (z5Y _ _) hl,g.del _⟩
   ·exact⟨hl,g⟩
def z0z:List ItemD→List ActD→Int × List ItemD
 |xs,[]=>(0,xs)
 |xs,a::r=>if actC xs a=0 then z0z (actN xs a) r else(actC xs a,[])
theorem q0x:∀ {zs:List ActD} {xs:List ItemD},xs.length≤8→Good xs→(∀a∈zs,actF a=0)→(z0z xs zs).1=0→(z0z xs zs).2.length≤8∧Good (z0z xs zs).2
 |[],xs,hl,g,_,_=>⟨hl,g⟩
 |a::r,xs,hl,g,ha,h=>by
  simp only[z0z]at h⊢;by_cases e:actC xs a=0
  ·rw[if_pos e]at h⊢;obtain⟨h1,h2⟩:=z3b hl g (ha a (by simp)) e;exact q0x h1 h2 (fun b hb=>ha b (by simp[hb])) h
  ·rw[if_neg e]at h;exact absurd h e
theorem z04{i s q:Int}{zs:List ActD}(h:txnF i s q zs=0):(1≤zs.length∧zs.length≤4)∧∀a∈zs,actF a=0:=by
 rcases z5p i s q zs with⟨_,e⟩|⟨_,_,e⟩|⟨_,_,_,e⟩|⟨_,_,_,⟨_,e⟩|⟨_,e⟩|⟨h4,h5,e⟩⟩
 ·rw[h]at e;simp at e
 ·rw[h]at e;simp at e
 ·rw[h]at e;simp at e
 ·rw[h]at e;simp at e
 ·rw[h]at e;simp at e
 ·refine⟨by omega,?_⟩;rw[h]at e;have:∀l:List ActD,z3f l=0→∀a∈l,actF a=0:=by
   intro l;induction l with
   |nil=>simp
   |cons x r ih=>
    intro h0 a ha;simp only[z3f]at h0;by_cases hx:actF x=0
    ·rw[if_pos hx]at h0;rcases List.mem_cons.1 ha with rfl|ha
     ·exact hx
     ·exact ih h0 a ha
    ·rw[if_neg hx]at h0;exact absurd h0 hx
  exact this zs e.symm
end
section
open Go.Maps Go.Sort Go.Shelf
def ShelfAt(w:World)(b:Nat)(xs:List ItemD):Prop:=w.ownsMap (H:=Unit) K 2 (plainElem K 2) b xs.length (z1c xs)
theorem z3r:Keyed K 2:=int_keyed Tryz.underlying2
theorem z4C(w:World):(zeroValue 2).run K w=.ok (.int .i64 0) w:=by kernel_rfl
theorem z9U{w:World}{b n:Nat}{xs:List ItemD}(h:w.ownsMap (H:=Unit) K 2 (plainElem K 2) b n (z1c xs)):ShelfAt w b xs:=by
 obtain⟨es,clock,hb,F,_,hD⟩:=h;refine⟨es,clock,hb,F,?_,hD⟩;have e:=congrArg Maps.size hD;rw[z2e,Maps.size_eq,length_sorted]at e;simp at e;omega
theorem ShelfAt.below{w w':World}{b:Nat}{xs:List ItemD}(h:ShelfAt w b xs)(hb:Below w.heap.size w w'):ShelfAt w' b xs:=by
 have hlt:=h.lt;obtain⟨es,clock,hh,r⟩:=h;exact⟨es,clock,(hb.block b hlt).trans hh,r⟩
theorem q6z{v:Int}(h:-9000000≤v∧v≤9000000):(Lit.int .i64 v).wf=true:=WalkArith.wf_i64 (by omega)
theorem z6V{k:Int}(h:-9000000≤k∧k≤9000000):keyOf K 2 (.int .i64 k)=some (.int .i64 k):=keyOf_int_mk Tryz.underlying2 (q6z h)
theorem q23{l:List ItemD}{k:Int}(h:∀y∈l,y.key≠k):delI l k=l:=by
 unfold delI;rw[List.filter_eq_self];intro y hy;simpa using h y hy
theorem z8Q{x:ItemD}:∀ {l:List ItemD},(∀y∈l,y.key<x.key)→z86 x l=l++[x]
 |[],_=>rfl
 |y::r,h=>by
  have h1:=h y (by simp);have ih:=z8Q (l:=r) (fun z hz=>h z (by simp[hz]));simp[z86,show¬x.key<y.key by omega,ih]
theorem q24{zs:List ItemD}(g:Good zs){k:Nat}(hk:k<zs.length):setI (zs.take k) (zs.getD k z0b)=zs.take (k+1):=by
 have hlow:∀y∈zs.take k,y.key<(zs.getD k z0b).key:=by
  intro y hy;obtain⟨j,hj,rfl⟩:=List.mem_iff_getElem.1 hy;have hj':j<k:=by simp at hj;omega
  have:=(List.pairwise_iff_getElem.1 g.rise) j k (by omega) hk hj';simpa[S,hk]using this
 have e:zs.getD k z0b=zs[k]:=by simp[S,hk]
 unfold setI;rw[q23 (fun y hy=>by have:=hlow y hy;omega),z8Q hlow,List.take_succ_eq_append_getElem hk,e]
theorem z50(a:Option Addr)(cap:Nat)(zs:List ItemD)(w:World)(h:ItemRow w a zs)(hl:zs.length≤8)(g:Good zs):
  Calls K 212 #[.slice a zs.length cap] w fun e w'=>e=.returned (.map (some w.heap.size))∧ShelfAt w' w.heap.size zs∧Below w.heap.size w w':=by
 have U:=@run_makeMap K;have N:(w.alloc (.map #[] 0)).ownsMap (H:=Unit) K 2 (plainElem K 2) w.heap.size 0 (z1c (zs.take 0)):=by
  rw[List.take_zero];exact World.ownsMap_made _ _ _ _
 go_enter func212,ntmps212
 go_wp2
 go_loopw[9] (fun i wr=>∃k:Nat,k≤zs.length∧i=.int .i64 k∧wr.ownsMap (H:=Unit) K 2 (plainElem K 2) w.heap.size k (z1c (zs.take k))∧Below w.heap.size w wr) (fun i _=>zs.length-(intOf i).toNat)
 case atStart=>exact⟨0,Nat.zero_le _,rfl,N,(Below.refl _ _).alloc (Nat.le_refl _) _⟩
 case round=>
  obtain⟨k,hk,rfl,d,hb⟩:=hrel;by_cases y:k<zs.length
  ·obtain⟨b,V,rfl,T,D,E⟩:=(h.below hb).at k y;have O:=hb.size;have HS:Hid (setI (zs.take k) (zs.getD k z0b)=zs.take (k+1)):=q24 g y;have I:=g.key _ (z34 y);have J:=g.val _ (z34 y);generalize zs.getD k z0b=z at D E HS I J;obtain⟨z0,z1⟩:=z;dsimp only at D E I J;have A:=z6V (k:=z0) (by omega);have C:=plainElem_int (H:=Unit) Tryz.underlying2 (q6z (v:=z1) (by omega))
   go_wp2_with (at_mapUpdate;refine wpList_mapUpdate_own _ rfl _ _ _ 301 rfl 2 2 z3r Tryz.underlying301 _ w.heap.size k _ rfl (d.alloc _) (by unfold maxLen;omega) _ _ _ rfl rfl A _ [] C ?_;intro w1 x c)
   rw[z38]at x;have L:Below w.heap.size w w1:=(hb.alloc O _).grown c (by simp;omega) (fun j hj=>by cases hj;exact Nat.le_refl _);clear d c A C
   go_wp2
   go_roundw
   case rel=>exact⟨k+1,by omega,by go_num,by rw[←HS.out];exact x,L⟩
   case measure=>simp[intOf];omega
  ·have M:k=zs.length:=by omega
   subst M;rw[List.take_length]at d
   go_wp2
   go_ret;exact⟨rfl,d,hb⟩
section
variable (w:World) {ops:Array Oper} {rest:List Oper} {o:Oper} {a:Act} {Q:Exit→Act→World→Prop}
theorem z2Q(hg:o.guard=none)(m x:Operand)(hop:o.op=Op.lookup 301 m x true)(b:Nat)(xs:List ItemD)(hm:a.eval m=.map (some b))(h:ShelfAt w b xs)(k:Int)(hx:a.eval x=.int .i64 k)(hk:-9000000≤k∧k≤9000000)
  (hK:wpList K ops Q rest (a.put o.dst (.tuple #[.int .i64 (valI xs k),.bool (hasI xs k)])) w):wpList K ops Q (o::rest) a w:=by
 refine wpList_lookup_own_ok_int w hg m x 301 hop 2 2 .i64 z3r Tryz.underlying301 Tryz.underlying2 (z4C _) b xs.length _ hm h _ _ hx (z6V hk) ?_;intro c hat _;rw[z7J]at hat;simp only[DataW.lit.injEq,Lit.int.injEq,true_and]at hat;rw[z5V,←hat];exact hK
theorem z51(hg:o.guard=none)(m x:Operand)(hop:o.op=Op.lookup 301 m x false)(b:Nat)(xs:List ItemD)(hm:a.eval m=.map (some b))(h:ShelfAt w b xs)(k:Int)(hx:a.eval x=.int .i64 k)(hk:-9000000≤k∧k≤9000000)
  (hK:wpList K ops Q rest (a.put o.dst (.int .i64 (valI xs k))) w):wpList K ops Q (o::rest) a w:=by
 refine wpList_lookup_own_int w hg m x 301 hop 2 2 .i64 z3r Tryz.underlying301 Tryz.underlying2 (z4C _) b xs.length _ hm h _ _ hx (z6V hk) ?_;intro c hat _;rw[z7J]at hat;simp only[DataW.lit.injEq,Lit.int.injEq,true_and]at hat;rw[←hat];exact hK
end
theorem z8R(xs:List ItemD)(k v:Int):
  (inW v (-20000) 20000=false∧layC xs k v=3)∨(inW v (-20000) 20000=true∧hasI xs k=true∧layC xs k v=0)∨
  (inW v (-20000) 20000=true∧hasI xs k=false∧8≤xs.length∧layC xs k v=7)∨(inW v (-20000) 20000=true∧hasI xs k=false∧¬8≤xs.length∧layC xs k v=0):=by
 unfold layC
 cases h1:inW v (-20000) 20000<;>cases h2:hasI xs k<;>by_cases h3:8≤xs.length<;>simp[h3]
theorem q5v(b:Nat)(xs:List ItemD)(k v:Int)(w:World)(h:ShelfAt w b xs)(hl:xs.length≤8)(hk:1≤k∧k≤20):
  Calls K 261 #[.map (some b),.int .i64 k,.int .i64 v] w fun e w'=>e=.returned (.int .i64 (layC xs k v))∧(layC xs k v=0→ShelfAt w' b (setI xs ⟨k,v⟩))∧w.grownBy w' (some b):=by
 have z:=z6V (k:=k) (by omega);have I:∀ty,(Builtin.len_ #[301] ty #[.map (some b)]).run K w=.ok (.int .i64 xs.length) w:=fun ty=>by
  have:=World.ownsMap.len h Tryz.underlying301 ty;rw[z2e]at this;exact this
 have x:=z5V xs k;have C:=fun w=>z1S v w
 rcases z8R xs k v with⟨h1,e⟩|⟨h1,h2,e⟩|⟨h1,h2,h3,e⟩|⟨h1,h2,h3,e⟩<;>rw[e]<;>rw[h1]at C
 ·go_enter func261,ntmps261
  go_wp2_with (go_at_call 260;refine(C _).mono ?_;rintro e w' ⟨rfl,hw⟩;replace hw:=hw.symm;subst hw)
  go_ret;exact⟨rfl,fun h=>by simp at h,World.grownBy.refl _ _⟩
 ·have A:=plainElem_int (H:=Unit) Tryz.underlying2 (q6z (v:=v) (by simp[inW]at h1;omega));rw[h2]at x;go_enter func261,ntmps261
  go_wp2_with (first|(go_at_call 260;refine(C _).mono ?_;rintro e w' ⟨rfl,hw⟩;replace hw:=hw.symm;subst hw)|(at_lookup;refine wpList_lookup_own_ok_int _ rfl _ _ 301 rfl 2 2 .i64 z3r Tryz.underlying301 Tryz.underlying2 (z4C _) b xs.length _ rfl h _ _ rfl z ?_;rw[x];intro c D E)|(at_mapUpdate;refine wpList_mapUpdate_own _ rfl _ _ _ 301 rfl 2 2 z3r Tryz.underlying301 _ b xs.length _ rfl h (by unfold maxLen;omega) _ _ _ rfl rfl z _ [] A ?_;intro w1 d y))
  go_ret;rw[z38]at d;exact⟨rfl,fun _=>z9U d,y⟩
 ·rw[h2]at x;go_enter func261,ntmps261
  go_wp2_with (first|(go_at_call 260;refine(C _).mono ?_;rintro e w' ⟨rfl,hw⟩;replace hw:=hw.symm;subst hw)|(at_lookup;refine wpList_lookup_own_ok_int _ rfl _ _ 301 rfl 2 2 .i64 z3r Tryz.underlying301 Tryz.underlying2 (z4C _) b xs.length _ rfl h _ _ rfl z ?_;rw[x];intro c D E))
  go_ret;exact⟨rfl,fun h=>by simp at h,World.grownBy.refl _ _⟩
 ·have A:=plainElem_int (H:=Unit) Tryz.underlying2 (q6z (v:=v) (by simp[inW]at h1;omega));rw[h2]at x;go_enter func261,ntmps261
  go_wp2_with (first|(go_at_call 260;refine(C _).mono ?_;rintro e w' ⟨rfl,hw⟩;replace hw:=hw.symm;subst hw)|(at_lookup;refine wpList_lookup_own_ok_int _ rfl _ _ 301 rfl 2 2 .i64 z3r Tryz.underlying301 Tryz.underlying2 (z4C _) b xs.length _ rfl h _ _ rfl z ?_;rw[x];intro c D E)|(at_mapUpdate;refine wpList_mapUpdate_own _ rfl _ _ _ 301 rfl 2 2 z3r Tryz.underlying301 _ b xs.length _ rfl h (by unfold maxLen;omega) _ _ _ rfl rfl z _ [] A ?_;intro w1 d y))
  go_ret;rw[z38]at d;exact⟨rfl,fun _=>z9U d,y⟩
theorem z2r{w w':World}{b:Nat}{o:Obj}(h:(w.alloc o).grownBy w' (some b)):Only b (b+1) w w':=
 (Only.of_below ((Below.refl _ _).alloc (Nat.le_refl _) o)).trans (z3K h (fun g hg=>by cases hg;omega))
theorem q4J(b:Nat)(xs:List ItemD)(k y v:Int)(w:World)(h:ShelfAt w b xs)(hl:xs.length≤8)(g:Good xs)(ha:actF ⟨k,y,v⟩=0):
  Calls K 237 #[.map (some b),.agg #[.int .i64 k,.int .i64 y,.int .i64 v]] w fun e w'=>e=.returned (.int .i64 (actC xs ⟨k,y,v⟩))∧(actC xs ⟨k,y,v⟩=0→ShelfAt w' b (actN xs ⟨k,y,v⟩))∧Only b (b+1) w w':=by
 obtain⟨hk,hy,hv⟩:=z2f ha;dsimp only at hk hy hv;have A:=g.valI y;have h0:ShelfAt (w.alloc (.cells #[.int .i64 k,.int .i64 y,.int .i64 v] 210)) b xs:=h.below (by go_grown);have hO:Only b (b+1) w (w.alloc (.cells #[.int .i64 k,.int .i64 y,.int .i64 v] 210)):=Only.of_below (by go_grown);have z:=fun v w h=>q5v b xs y v w h hl hy
 have d:∀ (w:World) (_:ShelfAt w b xs) (ops:Array Oper) (rest:List Oper) (o:Oper) (a:Act) (Q:Exit→Act→World→Prop) (hg:o.guard=none) (m x:Operand) (J:o.op=Op.lookup 301 m x true) (hm:a.eval m=.map (some b)) (hx:a.eval x=.int .i64 y) (hK:wpList K ops Q rest (a.put o.dst (.tuple #[.int .i64 (valI xs y),.bool (hasI xs y)])) w),wpList K ops Q (o::rest) a w:=
  fun w h ops rest o a Q hg m x J hm hx hK=>z2Q w hg m x J b xs hm h y hx (by omega) hK
 rcases(show k=1∨k=2∨k=3∨k=4 by omega)with rfl|rfl|rfl|rfl
 ·have e1:actC xs ⟨1,y,v⟩=layC xs y v:=by simp[actC]
  have e2:actN xs ⟨1,y,v⟩=setI xs ⟨y,v⟩:=by simp[actN]
  rw[e1,e2];clear e1 e2;generalize layC xs y=LC at z;generalize setI xs=SI at z;generalize valI xs y=c at d A;generalize hasI xs y=t at d;go_enter func237,ntmps237
  go_wp2_with (first|(at_lookup;refine d _ h0 _ _ _ _ _ rfl _ _ rfl rfl rfl ?_)|(go_at_call 261;refine(z _ _ h0).mono ?_;rintro e w' ⟨rfl,hS,hG⟩))
  go_ret;exact⟨rfl,hS,z2r hG⟩
 ·have e1:actC xs ⟨2,y,v⟩=layC xs y (valI xs y+v):=by simp[actC]
  have e2:actN xs ⟨2,y,v⟩=setI xs ⟨y,valI xs y+v⟩:=by simp[actN]
  rw[e1,e2];clear e1 e2;generalize layC xs y=LC at z;generalize setI xs=SI at z;generalize valI xs y=c at d A;generalize hasI xs y=t at d;go_enter func237,ntmps237
  go_wp2_with (first|(at_lookup;refine d _ h0 _ _ _ _ _ rfl _ _ rfl rfl rfl ?_)|(go_at_call 261;refine(z _ _ h0).mono ?_;rintro e w' ⟨rfl,hS,hG⟩))
  go_ret;exact⟨rfl,hS,z2r hG⟩
 ·cases hh:hasI xs y
  ·have e1:actC xs ⟨3,y,v⟩=4:=by simp[actC,hh]
   rw[e1];rw[hh]at d;clear e1;generalize valI xs y=c at d A;go_enter func237,ntmps237
   go_wp2_with (at_lookup;refine d _ h0 _ _ _ _ _ rfl _ _ rfl rfl rfl ?_)
   go_ret;exact⟨rfl,fun h=>by simp at h,hO⟩
  ·have e1:actC xs ⟨3,y,v⟩=0:=by simp[actC,hh]
   have e2:actN xs ⟨3,y,v⟩=delI xs y:=by simp[actN]
   have E:=z6V (k:=y) (by omega);rw[e1,e2];rw[hh]at d;clear e1 e2;generalize valI xs y=c at d A;go_enter func237,ntmps237
   go_wp2_with (first|(at_lookup;refine d _ h0 _ _ _ _ _ rfl _ _ rfl rfl rfl ?_)|(at_delete;refine wpList_delete_own _ rfl _ _ 301 2 rfl 2 z3r Tryz.underlying301 _ b xs.length _ rfl h0 _ _ rfl E ?_;intro w1 C D))
   go_ret;rw[q22]at C;exact⟨rfl,fun _=>z9U C,z2r D.grown⟩
 ·cases hh:hasI xs y
  ·have e1:actC xs ⟨4,y,v⟩=9:=by simp[actC,hh]
   rw[e1];rw[hh]at d;clear e1;generalize valI xs y=c at d A;go_enter func237,ntmps237
   go_wp2_with (at_lookup;refine d _ h0 _ _ _ _ _ rfl _ _ rfl rfl rfl ?_)
   go_ret;exact⟨rfl,fun h=>by simp at h,hO⟩
  ·by_cases hc:valI xs y=v
   ·have e1:actC xs ⟨4,y,v⟩=0:=by simp[actC,hh,hc]
    have e2:actN xs ⟨4,y,v⟩=xs:=by simp[actN]
    have I:(v !=v)=false:=by simp
    rw[e1,e2];rw[hh,hc]at d;clear e1 e2 hc A;go_enter func237,ntmps237
    go_wp2_with (at_lookup;refine d _ h0 _ _ _ _ _ rfl _ _ rfl rfl rfl ?_)
    go_ret;exact⟨rfl,fun _=>h0,hO⟩
   ·have e1:actC xs ⟨4,y,v⟩=9:=by simp[actC,hh,hc]
    have I:(valI xs y !=v)=true:=by simpa using hc
    rw[e1];rw[hh]at d;clear e1 hc;generalize valI xs y=c at d A I;go_enter func237,ntmps237
    go_wp2_with (at_lookup;refine d _ h0 _ _ _ _ _ rfl _ _ rfl rfl rfl ?_)
    go_ret;exact⟨rfl,fun h=>by simp at h,hO⟩
theorem q6s(m:Nat):AnyZI.SortsIn K z4O Fence.wide m:=
 ⟨fun blk off cap ss W hH hblk hsz=>callsIn_wide.2 (AnyM.slices_Sort_int q2e blk off cap ss W hH hblk hsz),fun p cap W=>callsIn_wide.2 (AnyM.slices_Sort_int_none q2e p cap W)⟩
theorem q6O(mb:Option Nat)(W:World):Calls K 263 #[.map mb] W fun e w'=>e=.returned (.func (.func 275) #[] #[.pointer (some ⟨W.heap.size,0,none⟩)])∧w'=W.alloc (.cells #[.map mb] 301):=
 (callsIn_wide (n:=5)).1 (AnyZI.keys_in q4F Fence.wide 5 trivial rfl mb W)
theorem q25{xs:List ItemD}(g:Good xs){ss:List Int}(h:ss.Perm (xs.map ItemD.key)):ss.mergeSort (fun x y=>decide (x≤y))=xs.map ItemD.key:=by
 have tr:∀a b c:Int,leI a b=true→leI b c=true→leI a c=true:=fun a b c h1 h2=>by simp only[leI,decide_eq_true_eq]at*;exact Int.le_trans h1 h2
 have to:∀a b:Int,(leI a b||leI b a)=true:=fun a b=>by simp only[leI,Bool.or_eq_true,decide_eq_true_eq];exact Int.le_total a b
 refine List.Perm.eq_of_pairwise (le:=fun a b=>leI a b=true) (fun a b _ _ h1 h2=>?_) (List.pairwise_mergeSort tr to ss) ?_ ((List.mergeSort_perm ss leI).trans h)
 ·simp only[leI,decide_eq_true_eq]at h1 h2;omega
 ·rw[List.pairwise_map];exact g.rise.imp (fun h=>by simp only[leI,decide_eq_true_eq];omega)
theorem q5w(b:Nat)(xs:List ItemD)(w:World)(h:ShelfAt w b xs)(hl:xs.length≤8)(g:Good xs):
  Calls K 262 #[.func (.func 275) #[] #[.pointer (some ⟨w.heap.size,0,none⟩)]] (w.alloc (.cells #[.map (some b)] 301)) fun e w'=>∃a c,e=.returned (.slice a xs.length c)∧
   w'.ownsRow (w.heap.size+1) 2 1 (.slice a xs.length c) xs.length ((xs.map ItemD.key).map (Value.int .i64))∧Below w.heap.size w w':=by
 have A:=h.lt;have z:SeqGives Fence.wide 2 K 275 #[.pointer (some ⟨w.heap.size,0,none⟩)] encZ (fun ss=>ss.Perm (intKeys (z1c xs))) (Maps.size (z1c xs)) (w.alloc (.cells #[.map (some b)] 301)):=
  AnyZI.keys_gives (ρ:=z6K) { q4F with } Fence.wide _ trivial rfl (by omega) w.heap.size b xs.length (z1c xs) _ (by simp) (by simp) (by
   obtain⟨es,x,hb,Ft,hs,hD⟩:=h;exact ⟨es,x,(Below.heap_alloc _ _ b A).trans hb,Ft,hs,hD⟩)
 have hz:=z2e xs;have cS:=AnyZI.sorted_in q30 Fence.wide 5 trivial trivial trivial trivial rfl (by omega) (q6s _) (enters_of func202 (by kernel_rfl) rfl) 275 #[.pointer (some ⟨w.heap.size,0,none⟩)] trivial (enters_of func275 (by kernel_rfl) rfl) _ _ (by rw[hz];unfold maxLen;omega) (by rw[hz];omega) _ z;change CallsIn _ _ K 262 _ _ _ at cS;refine((callsIn_wide (n:=5)).1 cS).mono ?_;rintro e w' ⟨v,ss,rfl,hS,d,C,hb⟩;rw[q1x]at hS;rw[q25 g hS]at d;have y:ss.length=xs.length:=by simpa using hS.length_eq
 rw[y]at d;obtain⟨a,c,rfl⟩:=z0f d;refine⟨a,c,rfl,?_,?_⟩
 ·rw[World.size_alloc]at d;exact d
 ·exact((Below.refl _ w).alloc (Nat.le_refl _) _).trans (hb.mono (by simp))
theorem q5x{xs:List ItemD}(g:Good xs){k:Nat}(hk:k<xs.length):valI xs (xs.getD k z0b).key=(xs.getD k z0b).val:=by
 have e:xs.getD k z0b=xs[k]:=by simp[S,hk]
 have hf:xs.find? (fun x=>x.key==(xs.getD k z0b).key)=some (xs.getD k z0b):=by
  rw[List.find?_eq_some_iff_getElem];refine⟨by simp,k,hk,e.symm,?_⟩;intro j hj;have:=(List.pairwise_iff_getElem.1 g.rise) j k (by omega) hk hj;rw[e];simp;omega
 unfold valI;rw[hf]
theorem q26(b:Nat)(xs:List ItemD)(w:World)(h:ShelfAt w b xs)(hl:xs.length≤8)(g:Good xs):
  Calls K 238 #[.map (some b)] w fun e w'=>∃a c,e=.returned (.slice a xs.length c)∧
   w'.ownsRow w.heap.size 173 2 (.slice a xs.length c) xs.length (z0g xs)∧Below w.heap.size w w':=by
 obtain⟨i0,hi,V,W,X⟩:=info_parts z2j;have cS:=q5w b xs w h hl g;go_enter func238,ntmps238
 go_wp2_with (first|(go_at_call 263;refine(q6O _ _).mono ?_;rintro e w' ⟨rfl,rfl⟩)|(go_at_call 262;refine cS.mono ?_;rintro e w1 ⟨ka,kc,rfl,L,D⟩))
 clear cS;have hR:Row .i64 w1 ka (xs.map ItemD.key):=Row.own (zs:=xs.map ItemD.key) (by simpa using L);have h1:=h.below D;clear L;go_loopw[3,10] (fun v i wr=>∃k:Nat,k≤xs.length∧i=.int .i64 k∧wr.ownsRow w1.heap.size 173 2 v k (z0g (xs.take k))∧Below w1.heap.size w1 wr) (fun _ i _=>xs.length-(intOf i).toNat)
 case atStart=>exact⟨0,Nat.zero_le _,rfl,World.ownsRow_nil _ _ _ _,Below.refl _ _⟩
 case round=>
  obtain⟨k,hk,rfl,ho,hb⟩:=hrel;obtain⟨a1,c1,rfl⟩:=z0f ho;have Z:=hb.size;by_cases y:k<xs.length
  ·obtain⟨bb,aa,rfl,Y,hc⟩:=(hR.below hb) k (by simpa using y);have ek:(xs.map ItemD.key).getD k 0=(xs.getD k z0b).key:=by simp[S,y]
   rw[ek]at hc;have O:=h1.below hb;have HS:Hid (xs.take (k+1)=xs.take k++[xs.getD k z0b]):=by
    have e:xs.getD k z0b=xs[k]:=by simp[S,y]
    show _=_;rw[List.take_succ_eq_append_getElem y,e]
   have J:=g.key _ (z34 y);have T:=q5x g y;have d:∀ (ops:Array Oper) (rest:List Oper) (o:Oper) (a:Act) (Q:Exit→Act→World→Prop) (hg:o.guard=none) (m x:Operand) (N:o.op=Op.lookup 301 m x false) (hm:a.eval m=.map (some b)) (hx:a.eval x=.int .i64 (xs.getD k z0b).key) (hK:wpList K ops Q rest (a.put o.dst (.int .i64 (xs.getD k z0b).val)) wr),wpList K ops Q (o::rest) a wr:=
    fun ops rest o a Q hg m x N hm hx hK=>z51 wr hg m x N b xs hm O _ hx (by omega) (by rw[T];exact hK)
   clear T O;generalize xs.getD k z0b=z at hc HS J d;obtain⟨z0,z1⟩:=z;dsimp only at hc J d;have E:Below w1.heap.size wr (wr.alloc (.cells #[.int .i64 z0,.int .i64 z1] 173)):=(Below.refl _ _).alloc (by omega) _;have M:=ho.alloc (.cells #[.int .i64 z0,.int .i64 z1] 173)
   go_wp2_with (first|(at_lookup;refine d _ _ _ _ _ rfl _ _ rfl rfl rfl ?_)|(at_builtin;refine wpList_append_own _ rfl _ _ 53 rfl w1.heap.size 173 i0 (.agg #[.int .i64 0,.int .i64 0]) 2 16 Tryz.underlying53 hi V W X rfl (by decide) _ k (z0g (xs.take k)) rfl M ⟨wr.heap.size,0,none⟩ 1 1 [.int .i64 z0,.int .i64 z1] rfl rfl ?c1 ?c2 ?c3 ?c4 ?c5 ?_))
   all_goals try
    (case c1=>intro j u hj;match j,hj with|0,hj=>simp at hj;subst hj;simp[Addr.add]|1,hj=>simp at hj;subst hj;simp[Addr.add])
   all_goals try(case c2=>first|rfl|(intro u hu;simp at hu;rcases hu with rfl|rfl<;>rfl))
   all_goals try(case c3=>unfold maxLen;omega)
   all_goals try(case c4=>omega)
   all_goals try(case c5=>first|omega|(simp;omega))
   intro v' w3 C A _;obtain⟨a2,c2,rfl⟩:=z0f C;have I:Below w1.heap.size wr w3:=E.grown A (by simp;omega) (fun j hj=>(ho.lt j hj).1);have R:Hid (w3.ownsRow w1.heap.size 173 2 (.slice a2 (k+1) c2) (k+1) (z0g (xs.take (k+1)))∧Below w1.heap.size w1 w3):=⟨by rw[HS.out];simpa[z0g,ItemD.cells]using C,hb.trans I⟩
   clear E A M ho C I
   go_wp2
   go_roundw
   case rel=>exact⟨k+1,by omega,by go_num,R.out.1,R.out.2⟩
   case measure=>simp[intOf];omega
  ·have U:k=xs.length:=by omega
   subst U;rw[List.take_length]at ho
   go_wp2
   go_ret;exact⟨_,_,rfl,z0r ho D.size,z0v D hb⟩
end
section
open Go.Maps
def z8S(a:Option Addr)(n cap:Nat):Prop:=(∃ad,a=some ad)∨(a=none∧n=0∧cap=0)
theorem z3c{w:World}{base e size n c:Nat}{a:Option Addr}{xs:List Value}(h:w.ownsRow base e size (.slice a n c) n xs):z8S a n c:=by
 rcases h.2 with⟨he,hn⟩|⟨g,cap,cur,he,_⟩
 ·simp only[Value.slice.injEq]at he;obtain⟨rfl,rfl,rfl⟩:=he;exact Or.inr ⟨rfl,rfl,rfl⟩
 ·simp only[Value.slice.injEq]at he;obtain⟨rfl,_⟩:=he;exact Or.inl ⟨_,rfl⟩
theorem q27{xs:List ItemD}{k:Int}(h:∀j,j<xs.length→((xs.getD j z0b).key==k)=false):hasI xs k=false∧valI xs k=0:=by
 have hn:∀x∈xs,(x.key==k)=false:=by
  intro x hx;obtain⟨j,hj,rfl⟩:=List.mem_iff_getElem.1 hx;simpa[S,hj]using h j hj
 constructor
 ·unfold hasI;rw[List.any_eq_false];intro x hx;simp[hn x hx]
 ·unfold valI;have:xs.find? (fun x=>x.key==k)=none:=by
   rw[List.find?_eq_none];intro x hx;simp[hn x hx]
  rw[this]
theorem q1z{xs:List ItemD}{k:Int}{j:Nat}(hj:j<xs.length)(h0:∀i,i<j→((xs.getD i z0b).key==k)=false)(h1:((xs.getD j z0b).key==k)=true):hasI xs k=true∧valI xs k=(xs.getD j z0b).val:=by
 have e:xs.getD j z0b=xs[j]:=by simp[S,hj]
 constructor
 ·unfold hasI;rw[List.any_eq_true];exact⟨_,z34 hj,h1⟩
 ·unfold valI;have:xs.find? (fun x=>x.key==k)=some (xs.getD j z0b):=by
   rw[List.find?_eq_some_iff_getElem];refine⟨h1,j,hj,e.symm,?_⟩;intro i hi;have:=h0 i hi;simp[S,show i<xs.length by omega]at this;simpa using this
  rw[this]
theorem z7K(a:Option Addr)(cap:Nat)(xs:List ItemD)(k:Int)(w:World)(h:ItemRow w a xs)(hl:xs.length≤1048576):
  Calls K 227 #[.slice a xs.length cap,.int .i64 k] w fun e w'=>∃r:Int,e=.returned (.int .i64 r)∧((r=-1∧hasI xs k=false∧valI xs k=0)∨∃j:Nat,r=j∧j<xs.length∧hasI xs k=true∧valI xs k=(xs.getD j z0b).val)∧w'=w:=by
 go_enter func227,ntmps227
 go_wp2
 go_loop[5] (fun i=>∃j:Nat,j≤xs.length∧i=.int .i64 j∧Hid (∀i,i<j→((xs.getD i z0b).key==k)=false)) (fun i=>xs.length-(intOf i).toNat)
 case atStart=>exact⟨0,Nat.zero_le _,rfl,fun j hj=>absurd hj (Nat.not_lt_zero _)⟩
 case round=>
  obtain⟨j,hj,rfl,HA⟩:=hrel;by_cases hlt:j<xs.length
  ·obtain⟨b,off,rfl,hbs,hc0,hc1⟩:=h.at j hlt;clear hc1
   cases he:((xs.getD j z0b).key==k)
   ·have HB:Hid (∀i,i<j+1→((xs.getD i z0b).key==k)=false):=by
     intro i hi;by_cases hij:i=j
     ·subst hij;exact he
     ·exact HA.out i (by omega)
    clear HA;generalize (xs.getD j z0b).key=z at hc0 he
    go_wp2
    go_round
    case rel=>exact⟨j+1,by omega,by go_num,HB⟩
    case measure=>simp[intOf];omega
   ·have E:Hid (hasI xs k=true∧valI xs k=(xs.getD j z0b).val):=q1z hlt HA.out he;clear HA;generalize (xs.getD j z0b).key=z at hc0 he
    go_wp2
    go_ret;exact⟨_,rfl,Or.inr ⟨j,rfl,hlt,E.out.1,E.out.2⟩,rfl⟩
  ·have hjl:j=xs.length:=by omega
   subst hjl;have E:Hid (hasI xs k=false∧valI xs k=0):=q27 HA.out;clear HA
   go_wp2
   go_ret;exact⟨_,rfl,Or.inl ⟨rfl,E.out.1,E.out.2⟩,rfl⟩
theorem z2s(a:Option Addr)(cap:Nat)(xs:List ItemD)(k:Int)(w:World)(h:ItemRow w a xs)(hl:xs.length≤1048576):
  Calls K 226 #[.slice a xs.length cap,.int .i64 k] w fun e w'=>e=.returned (.int .i64 (valI xs k))∧w'=w:=by
 have hc:=fun w h=>z7K a cap xs k w h hl
 go_enter func226,ntmps226
 go_wp2_with fail
 refine(hc _ h).mono ?_;rintro e w' ⟨r,rfl,⟨rfl,_,ev⟩|⟨j,rfl,hj,_,ev⟩,hw⟩
 ·replace hw:=hw.symm;subst hw
  go_wp2
  go_ret;rw[ev];exact⟨rfl,rfl⟩
 ·replace hw:=hw.symm;subst hw;obtain⟨b,off,rfl,hbs,hc0,hc1⟩:=h.at j hj;have E:Hid (valI xs k=(xs.getD j z0b).val):=ev;clear hc0 ev hc;generalize (xs.getD j z0b).val=z at hc1 E
  go_wp2
  go_ret;rw[E.out];exact⟨rfl,rfl⟩
end
end Go.Proofs.YtjjoahhnkpjolaaGreatDoor

/- Texts joined,with what the laws reach alone. -/
import Derived.Test.YtljbililjlafcaaGreatDoorILAH
import Derived.Maps.OwnSet
import Derived.Maps.Ext
import Derived.Lib.SlKeysI
set_option linter.unusedVariables false
set_option linter.unusedSimpArgs false
set_option maxRecDepth 100000
set_option maxHeartbeats 4000000
namespace Go.Proofs.YtljbililjlafcaaGreatDoor
open Go.RowKit Go.BigFrame
section
open Go.Maps
def hasI(xs:List ItemD)(k:Int):Bool:=xs.any (fun x=>x.key==k)
def valI(xs:List ItemD)(k:Int):Int:=match xs.find? (fun x=>x.key==k)with|some x=>x.val|none=>0
def z7y(x:ItemD):List ItemD→List ItemD
 |[]=>[x]
 |y::r=>if x.key<y.key then x::y::r else y::z7y x r
def delI(xs:List ItemD)(k:Int):List ItemD:=xs.filter (fun y=>!(y.key==k))
def setI(xs:List ItemD)(x:ItemD):List ItemD:=z7y x (delI xs x.key)
structure Good (xs:List ItemD):Prop where
 rise:xs.Pairwise (fun a b=>a.key<b.key)
 key:∀x∈xs,1≤x.key∧x.key≤20
 val:∀x∈xs,-20000≤x.val∧x.val≤20000
theorem z21{xs:List ItemD}{k:Nat}(h:k<xs.length):xs.getD k z0c∈xs:=by simp[List.getD,h]
theorem z29{xs:List ItemD}(h:itemsF xs=0):xs.length≤8∧Good xs:=by
 have h8:¬8<xs.length:=by
  intro h8;simp[itemsF,h8]at h
 have hz:=z3H (itF xs) xs.length (by simpa[itemsF,h8]using h);have hw:∀j,j<xs.length→(1≤(xs.getD j z0c).key∧(xs.getD j z0c).key≤20)∧(-20000≤(xs.getD j z0c).val∧(xs.getD j z0c).val≤20000)∧prevK xs j<(xs.getD j z0c).key:=by
  intro j hj;rcases z52 xs j with⟨_,e⟩|⟨_,_,e⟩|⟨_,_,_,e⟩|⟨h1,h2,h3,e⟩
  ·rw[hz j hj]at e;simp at e
  ·rw[hz j hj]at e;simp at e
  ·rw[hz j hj]at e;simp at e
  ·simp[inW]at h1 h2;exact⟨by simpa using h1,by simpa using h2,by omega⟩
 have hmem:∀x∈xs,∃j,j<xs.length∧x=xs.getD j z0c:=by
  intro x hx;obtain⟨j,hj,rfl⟩:=List.mem_iff_getElem.1 hx;exact⟨j,hj,by simp[List.getD,hj]⟩
 refine⟨by omega,?_,?_,?_⟩
 ·have step:∀j,j+1<xs.length→(xs.getD j z0c).key<(xs.getD (j+1) z0c).key:=by
   intro j hj;have:=(hw (j+1) hj).2.2;simpa[prevK]using this
  have far:∀d j,j+d+1<xs.length→(xs.getD j z0c).key<(xs.getD (j+d+1) z0c).key:=by
   intro d;induction d with
   |zero=>intro j hj;exact step j hj
   |succ d ih=>
    intro j hj;have h1:=ih j (by omega);have h2:=step (j+d+1) (by omega);rw[show j+(d+1)+1=j+d+1+1 by omega];omega
  rw[List.pairwise_iff_getElem];intro i j hi hj hij;have:=far (j-i-1) i (by omega);rw[show i+(j-i-1)+1=j by omega]at this;simpa[List.getD,hi,hj]using this
 ·intro x hx;obtain⟨j,hj,rfl⟩:=hmem x hx;exact(hw j hj).1
 ·intro x hx;obtain⟨j,hj,rfl⟩:=hmem x hx;exact(hw j hj).2.1
theorem q0X{xs:List ItemD}(hl:xs.length≤8)(g:Good xs):itemsF xs=0:=by
 unfold itemsF;rw[if_neg (by omega)];refine z1u _ _ ?_;intro j hj;have hm:=z21 hj;have hk:=g.key _ hm;have hv:=g.val _ hm;have hp:prevK xs j<(xs.getD j z0c).key:=by
  unfold prevK;split
  ·omega
  ·have:=(List.pairwise_iff_getElem.1 g.rise) (j-1) j (by omega) hj (by omega);simpa[List.getD,hj,show j-1<xs.length by omega]using this
 have hw:=z52 xs j;generalize xs.getD j z0c=x at hk hv hp hw;rcases hw with⟨h1,_⟩|⟨_,h2,_⟩|⟨_,_,h3,_⟩|⟨_,_,_,e⟩
 ·simp[inW]at h1;omega
 ·simp[inW]at h2;omega
 ·omega
 ·exact e
theorem mem_insI{x y:ItemD}:∀ {l:List ItemD},y∈z7y x l↔y=x∨y∈l
 |[]=>by simp[z7y]
 |z::r=>by
  simp only[z7y];split
  ·simp
  ·simp only[List.mem_cons,mem_insI (l:=r)];constructor
   ·rintro(h|h|h)<;>simp[h]
   ·rintro(h|h|h)<;>simp[h]
theorem z7i{x:ItemD}:∀ {l:List ItemD},l.Pairwise (fun a b=>a.key<b.key)→(∀y∈l,y.key≠x.key)→(z7y x l).Pairwise (fun a b=>a.key<b.key)
 |[],_,_=>by simp[z7y]
 |z::r,h,hne=>by
  rw[List.pairwise_cons]at h;simp only[z7y];split
  ·rename_i hlt
   rw[List.pairwise_cons];refine⟨?_,List.pairwise_cons.2 h⟩;intro y hy;rcases List.mem_cons.1 hy with rfl|hy
   ·exact hlt
   ·have:=h.1 y hy;omega
  ·rename_i hlt
   rw[List.pairwise_cons];refine⟨?_,z7i h.2 (fun y hy=>hne y (by simp[hy]))⟩;intro y hy;rcases mem_insI.1 hy with rfl|hy
   ·have:=hne z (by simp);omega
   ·exact h.1 y hy
theorem mem_delI{xs:List ItemD}{k:Int}{y:ItemD}:y∈delI xs k↔y∈xs∧y.key≠k:=by simp[delI]
theorem Good.del{xs:List ItemD}(g:Good xs)(k:Int):Good (delI xs k):=
 ⟨g.rise.filter _,fun x hx=>g.key x (mem_delI.1 hx).1,fun x hx=>g.val x (mem_delI.1 hx).1⟩
theorem Good.set{xs:List ItemD}(g:Good xs){x:ItemD}(hk:1≤x.key∧x.key≤20)(hv:-20000≤x.val∧x.val≤20000):Good (setI xs x):=by
 refine⟨z7i (g.del x.key).rise (fun y hy=>(mem_delI.1 hy).2),?_,?_⟩
 ·intro y hy;rcases mem_insI.1 hy with rfl|hy
  ·exact hk
  ·exact g.key y (mem_delI.1 hy).1
 ·intro y hy;rcases mem_insI.1 hy with rfl|hy
  ·exact hv
  ·exact g.val y (mem_delI.1 hy).1
theorem Good.valI{xs:List ItemD}(g:Good xs)(k:Int):-20000≤valI xs k∧valI xs k≤20000:=by
 unfold Go.Proofs.YtljbililjlafcaaGreatDoor.valI
 cases h:xs.find? (fun x=>x.key==k)with
 |none=>simp
 |some x=>exact g.val x (List.mem_of_find?_eq_some h)
def q0Y(x:ItemD):Lit × DataW Unit:=(.int .i64 x.key,.lit (.int .i64 x.val))
def z0V(xs:List ItemD):DataW Unit:=.map (xs.map q0Y)
theorem z2I(a b:Int):(Lit.int .i64 a).sameKey (.int .i64 b)=(a==b):=by
 simp[Lit.sameKey];rfl
theorem z1C(xs:List ItemD):Maps.size (z0V xs)=xs.length:=by simp[z0V,Maps.size_eq]
theorem z4K(xs:List ItemD)(k:Int):Maps.has (z0V xs) (.int .i64 k)=hasI xs k:=by
 rw[z0V,Maps.has_eq,List.any_map];unfold hasI
 congr 1
 funext x
 exact z2I x.key k
theorem z6m(xs:List ItemD)(k:Int):(z0V xs).atKey (.int .i64 k) (.lit (.int .i64 0))=.lit (.int .i64 (valI xs k)):=by
 unfold z0V DataW.atKey valI;dsimp only;rw[List.find?_map];have e:((fun p:Lit × DataW Unit=>p.1.sameKey (.int .i64 k)) ∘ q0Y)=fun x:ItemD=>x.key==k:=by
  funext x
  exact z2I x.key k
 rw[e]
 cases xs.find? (fun x=>x.key==k)<;>rfl
theorem z5C(x:ItemD):∀l:List ItemD,DataW.insert (q0Y x) (l.map q0Y)=(z7y x l).map q0Y
 |[]=>rfl
 |y::r=>by
  simp only[List.map_cons,DataW.insert,z7y];have e:(q0Y x).1.before (q0Y y).1=decide (x.key<y.key):=rfl;rw[e];by_cases h:x.key<y.key
  ·simp[h]
  ·simp[h,z5C x r]
theorem z4L(xs:List ItemD)(k:Int):(xs.map q0Y).filter (fun p=>!p.1.sameKey (.int .i64 k))=(delI xs k).map q0Y:=by
 rw[List.filter_map,delI]
 congr 1
 congr 1
 funext x
 exact congrArg (!·) (z2I x.key k)
theorem z3a(xs:List ItemD)(k v:Int):(z0V xs).put (.int .i64 k) (.lit (.int .i64 v))=z0V (setI xs ⟨k,v⟩):=by
 unfold z0V DataW.put;dsimp only;rw[z4L,show((Lit.int .i64 k,DataW.lit (Lit.int .i64 v)):Lit × DataW Unit)=q0Y ⟨k,v⟩from rfl,z5C];rfl
theorem q0Z(xs:List ItemD)(k:Int):(z0V xs).del (.int .i64 k)=z0V (delI xs k):=by
 unfold z0V DataW.del;dsimp only;rw[z4L]
theorem z9B(xs:List ItemD):intKeys (z0V xs)=xs.map ItemD.key:=by
 simp only[z0V,intKeys,List.map_map];rfl
theorem z9C{xs:List ItemD}(h:xs.Pairwise (fun a b=>a.key<b.key)):Maps.Tidy (z0V xs):=by
 refine⟨_,rfl,?_⟩;rw[List.pairwise_map];refine h.imp ?_;intro a b hab e;simp only[q0Y,Lit.int.injEq,true_and]at e;omega
theorem z4M{xs:List ItemD}(g:Good xs)(x:ItemD):(setI xs x).length=if hasI xs x.key then xs.length else xs.length+1:=by
 have:=Maps.size_put (k:=.int .i64 x.key) (z9C g.rise) (.lit (.int .i64 x.val));rw[z3a,z1C,z4K,z1C]at this;exact this
theorem z4N(xs:List ItemD)(k:Int):(delI xs k).length≤xs.length:=List.length_filter_le _ _
def setR(x:ItemD):Bool→List ItemD→List ItemD
 |d,[]=>if d then []else [x]
 |d,y::r=>(if !d && decide (x.key≤y.key)then [x]else [])++((if y.key==x.key then []else [y])++setR x (d||decide (x.key≤y.key)) r)
theorem z4O(x:ItemD):∀l:List ItemD,setR x true l=delI l x.key
 |[]=>rfl
 |y::r=>by
  have ih:=z4O x r;unfold delI at ih⊢;simp only[setR,Bool.not_true,Bool.false_and,Bool.true_or,List.filter_cons,ih]
  cases h:(y.key==x.key)<;>simp
theorem q16{x:ItemD}:∀ {l:List ItemD},(∀y∈l,x.key<y.key)→z7y x l=x::l
 |[],_=>rfl
 |y::r,h=>by simp[z7y,h y (by simp)]
theorem z5D(x:ItemD):∀ {l:List ItemD},l.Pairwise (fun a b=>a.key<b.key)→setR x false l=setI l x
 |[],_=>rfl
 |y::r,h=>by
  rw[List.pairwise_cons]at h;have ih:=z5D x h.2;simp only[setR,Bool.not_false,Bool.true_and,Bool.false_or];by_cases h1:y.key=x.key
  ·have e:(y.key==x.key)=true:=by simp[h1]
   have e2:decide (x.key≤y.key)=true:=by simp[h1]
   rw[e,e2,z4O];unfold setI;have e3:delI (y::r) x.key=delI r x.key:=by simp[delI,h1]
   rw[e3,q16 (fun z hz=>by have:=h.1 z (mem_delI.1 hz).1;omega)];simp
  ·have e:(y.key==x.key)=false:=by simp[h1]
   have e3:delI (y::r) x.key=y::delI r x.key:=by simp[delI,h1]
   by_cases h2:x.key≤y.key
   ·have e2:decide (x.key≤y.key)=true:=by simp[h2]
    rw[e,e2,z4O];unfold setI;rw[e3];simp[z7y,show x.key<y.key by omega]
   ·have e2:decide (x.key≤y.key)=false:=by simp[h2]
    rw[e,e2,ih];unfold setI;rw[e3];simp[z7y,show¬x.key<y.key by omega]
def layC(xs:List ItemD)(k v:Int):Int:=if inW v (-20000) 20000=false then 3 else if hasI xs k=false∧8≤xs.length then 7 else 0
def actC(xs:List ItemD)(a:ActD):Int:=
 if a.kind=1 then layC xs a.key a.val else if a.kind=2 then layC xs a.key (valI xs a.key+a.val)
 else if a.kind=3 then(if hasI xs a.key=true then 0 else 4)else(if hasI xs a.key=true∧valI xs a.key=a.val then 0 else 9)
def actN(xs:List ItemD)(a:ActD):List ItemD:=
 if a.kind=1 then setI xs ⟨a.key,a.val⟩else if a.kind=2 then setI xs ⟨a.key,valI xs a.key+a.val⟩else if a.kind=3 then delI xs a.key else xs
theorem z1D{a:ActD}(h:actF a=0):(1≤a.kind∧a.kind≤4)∧(1≤a.key∧a.key≤20)∧(-1000≤a.val∧a.val≤1000):=by
 obtain⟨k,y,v⟩:=a;rcases z4k k y v with⟨_,e⟩|⟨_,_,_,e⟩|⟨h1,_,⟨_,e⟩|⟨_,_,e⟩|⟨h4,h5,_⟩⟩
 ·rw[h]at e;simp at e
 ·rw[h]at e;simp at e
 ·rw[h]at e;simp at e
 ·rw[h]at e;simp at e
 ·simp[inW]at h1 h4 h5;exact⟨h1,h4,h5⟩
theorem z8B{xs:List ItemD}{k v:Int}(hl:xs.length≤8)(g:Good xs)(hk:1≤k∧k≤20)(h:layC xs k v=0):(setI xs ⟨k,v⟩).length≤8∧Good (setI xs ⟨k,v⟩):=by
 unfold layC at h;split at h
 ·simp at h
 ·rename_i hv
  split at h
  ·simp at h
  ·rename_i hh
   simp[inW]at hv;refine⟨?_,g.set hk (by simpa using hv)⟩;rw[z4M g];dsimp only
   cases e:hasI xs k
   ·simp[e]at hh⊢;omega
   ·simp;omega
theorem z2n{xs:List ItemD}{a:ActD}(hl:xs.length≤8)(g:Good xs)(ha:actF a=0)(h:actC xs a=0):(actN xs a).length≤8∧Good (actN xs a):=by
 obtain⟨hk,hy,hv⟩:=z1D ha;unfold actC at h;unfold actN;split
 ·rename_i e;rw[if_pos e]at h;exact z8B hl g hy h
 ·rename_i e;rw[if_neg e]at h
  split
  ·rename_i e;rw[if_pos e]at h;exact z8B hl g hy h
  ·split
   ·exact⟨Nat.le_trans (z4N _ _) hl,g.del _⟩
   ·exact⟨hl,g⟩
def z0t:List ItemD→List ActD→Int × List ItemD
 |xs,[]=>(0,xs)
 |xs,a::r=>if actC xs a=0 then z0t (actN xs a) r else(actC xs a,[])
theorem z8C:∀ {zs:List ActD} {xs:List ItemD},xs.length≤8→Good xs→(∀a∈zs,actF a=0)→(z0t xs zs).1=0→(z0t xs zs).2.length≤8∧Good (z0t xs zs).2
 |[],xs,hl,g,_,_=>⟨hl,g⟩
 |a::r,xs,hl,g,ha,h=>by
  simp only[z0t]at h⊢;by_cases e:actC xs a=0
  ·rw[if_pos e]at h⊢;obtain⟨h1,h2⟩:=z2n hl g (ha a (by simp)) e;exact z8C h1 h2 (fun b hb=>ha b (by simp[hb])) h
  ·rw[if_neg e]at h;exact absurd h e
theorem z0S{i s q:Int}{zs:List ActD}(h:txnF i s q zs=0):(1≤zs.length∧zs.length≤4)∧∀a∈zs,actF a=0:=by
 rcases z4l i s q zs with⟨_,e⟩|⟨_,_,e⟩|⟨_,_,_,e⟩|⟨_,_,_,⟨_,e⟩|⟨_,e⟩|⟨h4,h5,e⟩⟩
 ·rw[h]at e;simp at e
 ·rw[h]at e;simp at e
 ·rw[h]at e;simp at e
 ·rw[h]at e;simp at e
 ·rw[h]at e;simp at e
 ·refine⟨by omega,?_⟩;rw[h]at e;have:∀l:List ActD,z2q l=0→∀a∈l,actF a=0:=by
   intro l;induction l with
   |nil=>simp
   |cons x r ih=>
    intro h0 a ha;simp only[z2q]at h0;by_cases hx:actF x=0
    ·rw[if_pos hx]at h0;rcases List.mem_cons.1 ha with rfl|ha
     ·exact hx
     ·exact ih h0 a ha
    ·rw[if_neg hx]at h0;exact absurd h0 hx
  exact this zs e.symm
end
section
open Go.Maps Go.Sort Go.Shelf
def ShelfAt(w:World)(b:Nat)(xs:List ItemD):Prop:=w.ownsMap (H:=Unit) Tryz.prog 2 (plainElem Tryz.prog 2) b xs.length (z0V xs)
theorem z2w:Keyed Tryz.prog 2:=int_keyed Tryz.underlying2
theorem z3x(w:World):(zeroValue 2).run Tryz.prog w=.ok (.int .i64 0) w:=by kernel_rfl
theorem z8c{w:World}{b n:Nat}{xs:List ItemD}(h:w.ownsMap (H:=Unit) Tryz.prog 2 (plainElem Tryz.prog 2) b n (z0V xs)):ShelfAt w b xs:=by
 obtain⟨es,clock,hb,F,_,hD⟩:=h;refine⟨es,clock,hb,F,?_,hD⟩;have e:=congrArg Maps.size hD;rw[z1C,Maps.size_eq,length_sorted]at e;simp at e;omega
theorem ShelfAt.below{w w':World}{b:Nat}{xs:List ItemD}(h:ShelfAt w b xs)(hb:Below w.heap.size w w'):ShelfAt w' b xs:=by
 have hlt:=h.lt;obtain⟨es,clock,hh,r⟩:=h;exact⟨es,clock,(hb.block b hlt).trans hh,r⟩
theorem q4w{v:Int}(h:-9000000≤v∧v≤9000000):(Lit.int .i64 v).wf=true:=WalkArith.wf_i64 (by omega)
theorem z5E{k:Int}(h:-9000000≤k∧k≤9000000):keyOf Tryz.prog 2 (.int .i64 k)=some (.int .i64 k):=keyOf_int_mk Tryz.underlying2 (q4w h)
theorem q00{l:List ItemD}{k:Int}(h:∀y∈l,y.key≠k):delI l k=l:=by
 unfold delI;rw[List.filter_eq_self];intro y hy;simpa using h y hy
theorem z7j{x:ItemD}:∀ {l:List ItemD},(∀y∈l,y.key<x.key)→z7y x l=l++[x]
 |[],_=>rfl
 |y::r,h=>by
  have h1:=h y (by simp);have ih:=z7j (l:=r) (fun z hz=>h z (by simp[hz]));simp[z7y,show¬x.key<y.key by omega,ih]
theorem q01{zs:List ItemD}(g:Good zs){k:Nat}(hk:k<zs.length):setI (zs.take k) (zs.getD k z0c)=zs.take (k+1):=by
 have hlow:∀y∈zs.take k,y.key<(zs.getD k z0c).key:=by
  intro y hy;obtain⟨j,hj,rfl⟩:=List.mem_iff_getElem.1 hy;have hj':j<k:=by simp at hj;omega
  have:=(List.pairwise_iff_getElem.1 g.rise) j k (by omega) hk hj';simpa[List.getD,hk]using this
 have e:zs.getD k z0c=zs[k]:=by simp[List.getD,hk]
 unfold setI;rw[q00 (fun y hy=>by have:=hlow y hy;omega),z7j hlow,List.take_succ_eq_append_getElem hk,e]
theorem z4P(a:Option Addr)(cap:Nat)(zs:List ItemD)(w:World)(h:ItemRow w a zs)(hl:zs.length≤8)(g:Good zs):
  Calls Tryz.prog 181 #[.slice a zs.length cap] w fun e w'=>e=.returned (.map (some w.heap.size))∧ShelfAt w' w.heap.size zs∧Below w.heap.size w w':=by
 have U:=@run_makeMap Tryz.prog;have N:(w.alloc (.map #[] 0)).ownsMap (H:=Unit) Tryz.prog 2 (plainElem Tryz.prog 2) w.heap.size 0 (z0V (zs.take 0)):=by
  rw[List.take_zero];exact World.ownsMap_made _ _ _ _
 go_enter Tryz.func181,Tryz.ntmps181
 go_wp2
 go_loopw[9] (fun i wr=>∃k:Nat,k≤zs.length∧i=.int .i64 k∧wr.ownsMap (H:=Unit) Tryz.prog 2 (plainElem Tryz.prog 2) w.heap.size k (z0V (zs.take k))∧Below w.heap.size w wr) (fun i _=>zs.length-(intOf i).toNat)
 case atStart=>exact⟨0,Nat.zero_le _,rfl,N,(Below.refl _ _).alloc (Nat.le_refl _) _⟩
 case round=>
  obtain⟨k,hk,rfl,d,hb⟩:=hrel;by_cases y:k<zs.length
  ·obtain⟨b,V,rfl,T,D,E⟩:=(h.below hb).at k y;have O:=hb.size;have HS:Hid (setI (zs.take k) (zs.getD k z0c)=zs.take (k+1)):=q01 g y;have I:=g.key _ (z21 y);have J:=g.val _ (z21 y);generalize zs.getD k z0c=z at D E HS I J;obtain⟨z0,z1⟩:=z;dsimp only at D E I J;have A:=z5E (k:=z0) (by omega);have C:=plainElem_int (H:=Unit) Tryz.underlying2 (q4w (v:=z1) (by omega))
   go_wp2_with (at_mapUpdate;refine wpList_mapUpdate_own _ rfl _ _ _ 274 rfl 2 2 z2w Tryz.underlying274 _ w.heap.size k _ rfl (d.alloc _) (by unfold maxLen;omega) _ _ _ rfl rfl A _ [] C ?_;intro w1 x c)
   rw[z3a]at x;have L:Below w.heap.size w w1:=(hb.alloc O _).grown c (by simp;omega) (fun j hj=>by cases hj;exact Nat.le_refl _);clear d c A C
   go_wp2
   go_roundw
   case rel=>exact⟨k+1,by omega,by go_num,by rw[←HS.out];exact x,L⟩
   case measure=>simp[intOf];omega
  ·have M:k=zs.length:=by omega
   subst M;rw[List.take_length]at d
   go_wp2
   go_ret;exact⟨rfl,d,hb⟩
section
variable (w:World) {ops:Array Oper} {rest:List Oper} {o:Oper} {a:Act} {Q:Exit→Act→World→Prop}
theorem z2f(hg:o.guard=none)(m x:Operand)(hop:o.op=Op.lookup 274 m x true)(b:Nat)(xs:List ItemD)(hm:a.eval m=.map (some b))(h:ShelfAt w b xs)(k:Int)(hx:a.eval x=.int .i64 k)(hk:-9000000≤k∧k≤9000000)
  (hK:wpList Tryz.prog ops Q rest (a.put o.dst (.tuple #[.int .i64 (valI xs k),.bool (hasI xs k)])) w):wpList Tryz.prog ops Q (o::rest) a w:=by
 refine wpList_lookup_own_ok_int w hg m x 274 hop 2 2 .i64 z2w Tryz.underlying274 Tryz.underlying2 (z3x _) b xs.length _ hm h _ _ hx (z5E hk) ?_;intro c hat _;rw[z6m]at hat;simp only[DataW.lit.injEq,Lit.int.injEq,true_and]at hat;rw[z4K,←hat];exact hK
theorem z4Q(hg:o.guard=none)(m x:Operand)(hop:o.op=Op.lookup 274 m x false)(b:Nat)(xs:List ItemD)(hm:a.eval m=.map (some b))(h:ShelfAt w b xs)(k:Int)(hx:a.eval x=.int .i64 k)(hk:-9000000≤k∧k≤9000000)
  (hK:wpList Tryz.prog ops Q rest (a.put o.dst (.int .i64 (valI xs k))) w):wpList Tryz.prog ops Q (o::rest) a w:=by
 refine wpList_lookup_own_int w hg m x 274 hop 2 2 .i64 z2w Tryz.underlying274 Tryz.underlying2 (z3x _) b xs.length _ hm h _ _ hx (z5E hk) ?_;intro c hat _;rw[z6m]at hat;simp only[DataW.lit.injEq,Lit.int.injEq,true_and]at hat;rw[←hat];exact hK
end
theorem z7k(xs:List ItemD)(k v:Int):
  (inW v (-20000) 20000=false∧layC xs k v=3)∨(inW v (-20000) 20000=true∧hasI xs k=true∧layC xs k v=0)∨
  (inW v (-20000) 20000=true∧hasI xs k=false∧8≤xs.length∧layC xs k v=7)∨(inW v (-20000) 20000=true∧hasI xs k=false∧¬8≤xs.length∧layC xs k v=0):=by
 unfold layC
 cases h1:inW v (-20000) 20000<;>cases h2:hasI xs k<;>by_cases h3:8≤xs.length<;>simp[h3]
theorem q3p(b:Nat)(xs:List ItemD)(k v:Int)(w:World)(h:ShelfAt w b xs)(hl:xs.length≤8)(hk:1≤k∧k≤20):
  Calls Tryz.prog 223 #[.map (some b),.int .i64 k,.int .i64 v] w fun e w'=>e=.returned (.int .i64 (layC xs k v))∧(layC xs k v=0→ShelfAt w' b (setI xs ⟨k,v⟩))∧w.grownBy w' (some b):=by
 have z:=z5E (k:=k) (by omega);have I:∀ty,(Builtin.len_ #[274] ty #[.map (some b)]).run Tryz.prog w=.ok (.int .i64 xs.length) w:=fun ty=>by
  have:=World.ownsMap.len h Tryz.underlying274 ty;rw[z1C]at this;exact this
 have x:=z4K xs k;have C:=fun w=>z1p v w
 rcases z7k xs k v with⟨h1,e⟩|⟨h1,h2,e⟩|⟨h1,h2,h3,e⟩|⟨h1,h2,h3,e⟩<;>rw[e]<;>rw[h1]at C
 ·go_enter Tryz.func223,Tryz.ntmps223
  go_wp2_with (go_at_call 222;refine(C _).mono ?_;rintro e w' ⟨rfl,hw⟩;replace hw:=hw.symm;subst hw)
  go_ret;exact⟨rfl,fun h=>by simp at h,World.grownBy.refl _ _⟩
 ·have A:=plainElem_int (H:=Unit) Tryz.underlying2 (q4w (v:=v) (by simp[inW]at h1;omega));rw[h2]at x;go_enter Tryz.func223,Tryz.ntmps223
  go_wp2_with (first|(go_at_call 222;refine(C _).mono ?_;rintro e w' ⟨rfl,hw⟩;replace hw:=hw.symm;subst hw)|(at_lookup;refine wpList_lookup_own_ok_int _ rfl _ _ 274 rfl 2 2 .i64 z2w Tryz.underlying274 Tryz.underlying2 (z3x _) b xs.length _ rfl h _ _ rfl z ?_;rw[x];intro c D E)|(at_mapUpdate;refine wpList_mapUpdate_own _ rfl _ _ _ 274 rfl 2 2 z2w Tryz.underlying274 _ b xs.length _ rfl h (by unfold maxLen;omega) _ _ _ rfl rfl z _ [] A ?_;intro w1 d y))
  go_ret;rw[z3a]at d;exact⟨rfl,fun _=>z8c d,y⟩
 ·rw[h2]at x;go_enter Tryz.func223,Tryz.ntmps223
  go_wp2_with (first|(go_at_call 222;refine(C _).mono ?_;rintro e w' ⟨rfl,hw⟩;replace hw:=hw.symm;subst hw)|(at_lookup;refine wpList_lookup_own_ok_int _ rfl _ _ 274 rfl 2 2 .i64 z2w Tryz.underlying274 Tryz.underlying2 (z3x _) b xs.length _ rfl h _ _ rfl z ?_;rw[x];intro c D E))
  go_ret;exact⟨rfl,fun h=>by simp at h,World.grownBy.refl _ _⟩
 ·have A:=plainElem_int (H:=Unit) Tryz.underlying2 (q4w (v:=v) (by simp[inW]at h1;omega));rw[h2]at x;go_enter Tryz.func223,Tryz.ntmps223
  go_wp2_with (first|(go_at_call 222;refine(C _).mono ?_;rintro e w' ⟨rfl,hw⟩;replace hw:=hw.symm;subst hw)|(at_lookup;refine wpList_lookup_own_ok_int _ rfl _ _ 274 rfl 2 2 .i64 z2w Tryz.underlying274 Tryz.underlying2 (z3x _) b xs.length _ rfl h _ _ rfl z ?_;rw[x];intro c D E)|(at_mapUpdate;refine wpList_mapUpdate_own _ rfl _ _ _ 274 rfl 2 2 z2w Tryz.underlying274 _ b xs.length _ rfl h (by unfold maxLen;omega) _ _ _ rfl rfl z _ [] A ?_;intro w1 d y))
  go_ret;rw[z3a]at d;exact⟨rfl,fun _=>z8c d,y⟩
theorem z1P{w w':World}{b:Nat}{o:Obj}(h:(w.alloc o).grownBy w' (some b)):Only b (b+1) w w':=
 (Only.of_below ((Below.refl _ _).alloc (Nat.le_refl _) o)).trans (z2L h (fun g hg=>by cases hg;omega))
theorem q2y(b:Nat)(xs:List ItemD)(k y v:Int)(w:World)(h:ShelfAt w b xs)(hl:xs.length≤8)(g:Good xs)(ha:actF ⟨k,y,v⟩=0):
  Calls Tryz.prog 201 #[.map (some b),.agg #[.int .i64 k,.int .i64 y,.int .i64 v]] w fun e w'=>e=.returned (.int .i64 (actC xs ⟨k,y,v⟩))∧(actC xs ⟨k,y,v⟩=0→ShelfAt w' b (actN xs ⟨k,y,v⟩))∧Only b (b+1) w w':=by
 obtain⟨hk,hy,hv⟩:=z1D ha;dsimp only at hk hy hv;have A:=g.valI y;have h0:ShelfAt (w.alloc (.cells #[.int .i64 k,.int .i64 y,.int .i64 v] 118)) b xs:=h.below (by go_grown);have hO:Only b (b+1) w (w.alloc (.cells #[.int .i64 k,.int .i64 y,.int .i64 v] 118)):=Only.of_below (by go_grown);have z:=fun v w h=>q3p b xs y v w h hl hy
 have d:∀ (w:World) (_:ShelfAt w b xs) (ops:Array Oper) (rest:List Oper) (o:Oper) (a:Act) (Q:Exit→Act→World→Prop) (hg:o.guard=none) (m x:Operand) (J:o.op=Op.lookup 274 m x true) (hm:a.eval m=.map (some b)) (hx:a.eval x=.int .i64 y) (hK:wpList Tryz.prog ops Q rest (a.put o.dst (.tuple #[.int .i64 (valI xs y),.bool (hasI xs y)])) w),wpList Tryz.prog ops Q (o::rest) a w:=
  fun w h ops rest o a Q hg m x J hm hx hK=>z2f w hg m x J b xs hm h y hx (by omega) hK
 rcases(show k=1∨k=2∨k=3∨k=4 by omega)with rfl|rfl|rfl|rfl
 ·have e1:actC xs ⟨1,y,v⟩=layC xs y v:=by simp[actC]
  have e2:actN xs ⟨1,y,v⟩=setI xs ⟨y,v⟩:=by simp[actN]
  rw[e1,e2];clear e1 e2;generalize layC xs y=LC at z;generalize setI xs=SI at z;generalize valI xs y=c at d A;generalize hasI xs y=t at d;go_enter Tryz.func201,Tryz.ntmps201
  go_wp2_with (first|(at_lookup;refine d _ h0 _ _ _ _ _ rfl _ _ rfl rfl rfl ?_)|(go_at_call 223;refine(z _ _ h0).mono ?_;rintro e w' ⟨rfl,hS,hG⟩))
  go_ret;exact⟨rfl,hS,z1P hG⟩
 ·have e1:actC xs ⟨2,y,v⟩=layC xs y (valI xs y+v):=by simp[actC]
  have e2:actN xs ⟨2,y,v⟩=setI xs ⟨y,valI xs y+v⟩:=by simp[actN]
  rw[e1,e2];clear e1 e2;generalize layC xs y=LC at z;generalize setI xs=SI at z;generalize valI xs y=c at d A;generalize hasI xs y=t at d;go_enter Tryz.func201,Tryz.ntmps201
  go_wp2_with (first|(at_lookup;refine d _ h0 _ _ _ _ _ rfl _ _ rfl rfl rfl ?_)|(go_at_call 223;refine(z _ _ h0).mono ?_;rintro e w' ⟨rfl,hS,hG⟩))
  go_ret;exact⟨rfl,hS,z1P hG⟩
 ·cases hh:hasI xs y
  ·have e1:actC xs ⟨3,y,v⟩=4:=by simp[actC,hh]
   rw[e1];rw[hh]at d;clear e1;generalize valI xs y=c at d A;go_enter Tryz.func201,Tryz.ntmps201
   go_wp2_with (at_lookup;refine d _ h0 _ _ _ _ _ rfl _ _ rfl rfl rfl ?_)
   go_ret;exact⟨rfl,fun h=>by simp at h,hO⟩
  ·have e1:actC xs ⟨3,y,v⟩=0:=by simp[actC,hh]
   have e2:actN xs ⟨3,y,v⟩=delI xs y:=by simp[actN]
   have E:=z5E (k:=y) (by omega);rw[e1,e2];rw[hh]at d;clear e1 e2;generalize valI xs y=c at d A;go_enter Tryz.func201,Tryz.ntmps201
   go_wp2_with (first|(at_lookup;refine d _ h0 _ _ _ _ _ rfl _ _ rfl rfl rfl ?_)|(at_delete;refine wpList_delete_own _ rfl _ _ 274 2 rfl 2 z2w Tryz.underlying274 _ b xs.length _ rfl h0 _ _ rfl E ?_;intro w1 C D))
   go_ret;rw[q0Z]at C;exact⟨rfl,fun _=>z8c C,z1P D.grown⟩
 ·cases hh:hasI xs y
  ·have e1:actC xs ⟨4,y,v⟩=9:=by simp[actC,hh]
   rw[e1];rw[hh]at d;clear e1;generalize valI xs y=c at d A;go_enter Tryz.func201,Tryz.ntmps201
   go_wp2_with (at_lookup;refine d _ h0 _ _ _ _ _ rfl _ _ rfl rfl rfl ?_)
   go_ret;exact⟨rfl,fun h=>by simp at h,hO⟩
  ·by_cases hc:valI xs y=v
   ·have e1:actC xs ⟨4,y,v⟩=0:=by simp[actC,hh,hc]
    have e2:actN xs ⟨4,y,v⟩=xs:=by simp[actN]
    have I:(v !=v)=false:=by simp
    rw[e1,e2];rw[hh,hc]at d;clear e1 e2 hc A;go_enter Tryz.func201,Tryz.ntmps201
    go_wp2_with (at_lookup;refine d _ h0 _ _ _ _ _ rfl _ _ rfl rfl rfl ?_)
    go_ret;exact⟨rfl,fun _=>h0,hO⟩
   ·have e1:actC xs ⟨4,y,v⟩=9:=by simp[actC,hh,hc]
    have I:(valI xs y !=v)=true:=by simpa using hc
    rw[e1];rw[hh]at d;clear e1 hc;generalize valI xs y=c at d A I;go_enter Tryz.func201,Tryz.ntmps201
    go_wp2_with (at_lookup;refine d _ h0 _ _ _ _ _ rfl _ _ rfl rfl rfl ?_)
    go_ret;exact⟨rfl,fun h=>by simp at h,hO⟩
theorem q4l(m:Nat):AnyZI.SortsIn Tryz.prog z3I Fence.wide m:=
 ⟨fun blk off cap ss W hH hblk hsz=>callsIn_wide.2 (AnyM.slices_Sort_int q0h blk off cap ss W hH hblk hsz),fun p cap W=>callsIn_wide.2 (AnyM.slices_Sort_int_none q0h p cap W)⟩
theorem q4K(mb:Option Nat)(W:World):Calls Tryz.prog 225 #[.map mb] W fun e w'=>e=.returned (.func (.func 237) #[] #[.pointer (some ⟨W.heap.size,0,none⟩)])∧w'=W.alloc (.cells #[.map mb] 274):=
 (callsIn_wide (n:=5)).1 (AnyZI.keys_in q2u Fence.wide 5 trivial rfl mb W)
theorem q02{xs:List ItemD}(g:Good xs){ss:List Int}(h:ss.Perm (xs.map ItemD.key)):ss.mergeSort (fun x y=>decide (x≤y))=xs.map ItemD.key:=by
 have tr:∀a b c:Int,leI a b=true→leI b c=true→leI a c=true:=fun a b c h1 h2=>by simp only[leI,decide_eq_true_eq]at*;exact Int.le_trans h1 h2
 have to:∀a b:Int,(leI a b||leI b a)=true:=fun a b=>by simp only[leI,Bool.or_eq_true,decide_eq_true_eq];exact Int.le_total a b
 refine List.Perm.eq_of_pairwise (le:=fun a b=>leI a b=true) (fun a b _ _ h1 h2=>?_) (List.pairwise_mergeSort tr to ss) ?_ ((List.mergeSort_perm ss leI).trans h)
 ·simp only[leI,decide_eq_true_eq]at h1 h2;omega
 ·rw[List.pairwise_map];exact g.rise.imp (fun h=>by simp only[leI,decide_eq_true_eq];omega)
theorem q3q(b:Nat)(xs:List ItemD)(w:World)(h:ShelfAt w b xs)(hl:xs.length≤8)(g:Good xs):
  Calls Tryz.prog 224 #[.func (.func 237) #[] #[.pointer (some ⟨w.heap.size,0,none⟩)]] (w.alloc (.cells #[.map (some b)] 274)) fun e w'=>∃a c,e=.returned (.slice a xs.length c)∧
   w'.ownsRow (w.heap.size+1) 2 1 (.slice a xs.length c) xs.length ((xs.map ItemD.key).map (Value.int .i64))∧Below w.heap.size w w':=by
 have A:=h.lt;have z:SeqGives Fence.wide 2 Tryz.prog 237 #[.pointer (some ⟨w.heap.size,0,none⟩)] encZ (fun ss=>ss.Perm (intKeys (z0V xs))) (Maps.size (z0V xs)) (w.alloc (.cells #[.map (some b)] 274)):=
  AnyZI.keys_gives (ρ:=z5v) { q2u with } Fence.wide _ trivial rfl (by omega) w.heap.size b xs.length (z0V xs) _ (by simp) (by simp) (by
   obtain⟨es,x,hb,Ft,hs,hD⟩:=h;exact ⟨es,x,(Below.heap_alloc _ _ b A).trans hb,Ft,hs,hD⟩)
 have hz:=z1C xs;have cS:=AnyZI.sorted_in q1X Fence.wide 5 trivial trivial trivial trivial rfl (by omega) (q4l _) (enters_of Tryz.func170 (by kernel_rfl) rfl) 237 #[.pointer (some ⟨w.heap.size,0,none⟩)] trivial (enters_of Tryz.func237 (by kernel_rfl) rfl) _ _ (by rw[hz];unfold maxLen;omega) (by rw[hz];omega) _ z;change CallsIn _ _ Tryz.prog 224 _ _ _ at cS;refine((callsIn_wide (n:=5)).1 cS).mono ?_;rintro e w' ⟨v,ss,rfl,hS,d,C,hb⟩;rw[z9B]at hS;rw[q02 g hS]at d;have y:ss.length=xs.length:=by simpa using hS.length_eq
 rw[y]at d;obtain⟨a,c,rfl⟩:=z0g d;refine⟨a,c,rfl,?_,?_⟩
 ·rw[World.size_alloc]at d;exact d
 ·exact((Below.refl _ w).alloc (Nat.le_refl _) _).trans (hb.mono (by simp))
theorem q3r{xs:List ItemD}(g:Good xs){k:Nat}(hk:k<xs.length):valI xs (xs.getD k z0c).key=(xs.getD k z0c).val:=by
 have e:xs.getD k z0c=xs[k]:=by simp[List.getD,hk]
 have hf:xs.find? (fun x=>x.key==(xs.getD k z0c).key)=some (xs.getD k z0c):=by
  rw[List.find?_eq_some_iff_getElem];refine⟨by simp,k,hk,e.symm,?_⟩;intro j hj;have:=(List.pairwise_iff_getElem.1 g.rise) j k (by omega) hk hj;rw[e];simp;omega
 unfold valI;rw[hf]
theorem q03(b:Nat)(xs:List ItemD)(w:World)(h:ShelfAt w b xs)(hl:xs.length≤8)(g:Good xs):
  Calls Tryz.prog 202 #[.map (some b)] w fun e w'=>∃a c,e=.returned (.slice a xs.length c)∧
   w'.ownsRow w.heap.size 187 2 (.slice a xs.length c) xs.length (z0h xs)∧Below w.heap.size w w':=by
 obtain⟨i0,hi,V,W,X⟩:=info_parts z1H;have cS:=q3q b xs w h hl g;go_enter Tryz.func202,Tryz.ntmps202
 go_wp2_with (first|(go_at_call 225;refine(q4K _ _).mono ?_;rintro e w' ⟨rfl,rfl⟩)|(go_at_call 224;refine cS.mono ?_;rintro e w1 ⟨ka,kc,rfl,L,D⟩))
 clear cS;have hR:Row .i64 w1 ka (xs.map ItemD.key):=Row.own (zs:=xs.map ItemD.key) (by simpa using L);have h1:=h.below D;clear L;go_loopw[3,10] (fun v i wr=>∃k:Nat,k≤xs.length∧i=.int .i64 k∧wr.ownsRow w1.heap.size 187 2 v k (z0h (xs.take k))∧Below w1.heap.size w1 wr) (fun _ i _=>xs.length-(intOf i).toNat)
 case atStart=>exact⟨0,Nat.zero_le _,rfl,World.ownsRow_nil _ _ _ _,Below.refl _ _⟩
 case round=>
  obtain⟨k,hk,rfl,ho,hb⟩:=hrel;obtain⟨a1,c1,rfl⟩:=z0g ho;have Z:=hb.size;by_cases y:k<xs.length
  ·obtain⟨bb,aa,rfl,Y,hc⟩:=(hR.below hb) k (by simpa using y);have ek:(xs.map ItemD.key).getD k 0=(xs.getD k z0c).key:=by simp[List.getD,y]
   rw[ek]at hc;have O:=h1.below hb;have HS:Hid (xs.take (k+1)=xs.take k++[xs.getD k z0c]):=by
    have e:xs.getD k z0c=xs[k]:=by simp[List.getD,y]
    show _=_;rw[List.take_succ_eq_append_getElem y,e]
   have J:=g.key _ (z21 y);have T:=q3r g y;have d:∀ (ops:Array Oper) (rest:List Oper) (o:Oper) (a:Act) (Q:Exit→Act→World→Prop) (hg:o.guard=none) (m x:Operand) (N:o.op=Op.lookup 274 m x false) (hm:a.eval m=.map (some b)) (hx:a.eval x=.int .i64 (xs.getD k z0c).key) (hK:wpList Tryz.prog ops Q rest (a.put o.dst (.int .i64 (xs.getD k z0c).val)) wr),wpList Tryz.prog ops Q (o::rest) a wr:=
    fun ops rest o a Q hg m x N hm hx hK=>z4Q wr hg m x N b xs hm O _ hx (by omega) (by rw[T];exact hK)
   clear T O;generalize xs.getD k z0c=z at hc HS J d;obtain⟨z0,z1⟩:=z;dsimp only at hc J d;have E:Below w1.heap.size wr (wr.alloc (.cells #[.int .i64 z0,.int .i64 z1] 187)):=(Below.refl _ _).alloc (by omega) _;have M:=ho.alloc (.cells #[.int .i64 z0,.int .i64 z1] 187)
   go_wp2_with (first|(at_lookup;refine d _ _ _ _ _ rfl _ _ rfl rfl rfl ?_)|(at_builtin;refine wpList_append_own _ rfl _ _ 70 rfl w1.heap.size 187 i0 (.agg #[.int .i64 0,.int .i64 0]) 2 16 Tryz.underlying70 hi V W X rfl (by decide) _ k (z0h (xs.take k)) rfl M ⟨wr.heap.size,0,none⟩ 1 1 [.int .i64 z0,.int .i64 z1] rfl rfl ?c1 ?c2 ?c3 ?c4 ?c5 ?_))
   all_goals try
    (case c1=>intro j u hj;match j,hj with|0,hj=>simp at hj;subst hj;simp[Addr.add]|1,hj=>simp at hj;subst hj;simp[Addr.add])
   all_goals try(case c2=>first|rfl|(intro u hu;simp at hu;rcases hu with rfl|rfl<;>rfl))
   all_goals try(case c3=>unfold maxLen;omega)
   all_goals try(case c4=>omega)
   all_goals try(case c5=>first|omega|(simp;omega))
   intro v' w3 C A _;obtain⟨a2,c2,rfl⟩:=z0g C;have I:Below w1.heap.size wr w3:=E.grown A (by simp;omega) (fun j hj=>(ho.lt j hj).1);have R:Hid (w3.ownsRow w1.heap.size 187 2 (.slice a2 (k+1) c2) (k+1) (z0h (xs.take (k+1)))∧Below w1.heap.size w1 w3):=⟨by rw[HS.out];simpa[z0h,ItemD.cells]using C,hb.trans I⟩
   clear E A M ho C I
   go_wp2
   go_roundw
   case rel=>exact⟨k+1,by omega,by go_num,R.out.1,R.out.2⟩
   case measure=>simp[intOf];omega
  ·have U:k=xs.length:=by omega
   subst U;rw[List.take_length]at ho
   go_wp2
   go_ret;exact⟨_,_,rfl,z0p ho D.size,z0o D hb⟩
end
section
open Go.Maps
def z7l(a:Option Addr)(n cap:Nat):Prop:=(∃ad,a=some ad)∨(a=none∧n=0∧cap=0)
theorem z2o{w:World}{base e size n c:Nat}{a:Option Addr}{xs:List Value}(h:w.ownsRow base e size (.slice a n c) n xs):z7l a n c:=by
 rcases h.2 with⟨he,hn⟩|⟨g,cap,cur,he,_⟩
 ·simp only[Value.slice.injEq]at he;obtain⟨rfl,rfl,rfl⟩:=he;exact Or.inr ⟨rfl,rfl,rfl⟩
 ·simp only[Value.slice.injEq]at he;obtain⟨rfl,_⟩:=he;exact Or.inl ⟨_,rfl⟩
theorem q04{xs:List ItemD}{k:Int}(h:∀j,j<xs.length→((xs.getD j z0c).key==k)=false):hasI xs k=false∧valI xs k=0:=by
 have hn:∀x∈xs,(x.key==k)=false:=by
  intro x hx;obtain⟨j,hj,rfl⟩:=List.mem_iff_getElem.1 hx;simpa[List.getD,hj]using h j hj
 constructor
 ·unfold hasI;rw[List.any_eq_false];intro x hx;simp[hn x hx]
 ·unfold valI;have:xs.find? (fun x=>x.key==k)=none:=by
   rw[List.find?_eq_none];intro x hx;simp[hn x hx]
  rw[this]
theorem z9D{xs:List ItemD}{k:Int}{j:Nat}(hj:j<xs.length)(h0:∀i,i<j→((xs.getD i z0c).key==k)=false)(h1:((xs.getD j z0c).key==k)=true):hasI xs k=true∧valI xs k=(xs.getD j z0c).val:=by
 have e:xs.getD j z0c=xs[j]:=by simp[List.getD,hj]
 constructor
 ·unfold hasI;rw[List.any_eq_true];exact⟨_,z21 hj,h1⟩
 ·unfold valI;have:xs.find? (fun x=>x.key==k)=some (xs.getD j z0c):=by
   rw[List.find?_eq_some_iff_getElem];refine⟨h1,j,hj,e.symm,?_⟩;intro i hi;have:=h0 i hi;simp[List.getD,show i<xs.length by omega]at this;simpa using this
  rw[this]
theorem z6n(a:Option Addr)(cap:Nat)(xs:List ItemD)(k:Int)(w:World)(h:ItemRow w a xs)(hl:xs.length≤1048576):
  Calls Tryz.prog 168 #[.slice a xs.length cap,.int .i64 k] w fun e w'=>∃r:Int,e=.returned (.int .i64 r)∧((r=-1∧hasI xs k=false∧valI xs k=0)∨∃j:Nat,r=j∧j<xs.length∧hasI xs k=true∧valI xs k=(xs.getD j z0c).val)∧w'=w:=by
 go_enter Tryz.func168,Tryz.ntmps168
 go_wp2
 go_loop[5] (fun i=>∃j:Nat,j≤xs.length∧i=.int .i64 j∧Hid (∀i,i<j→((xs.getD i z0c).key==k)=false)) (fun i=>xs.length-(intOf i).toNat)
 case atStart=>exact⟨0,Nat.zero_le _,rfl,fun j hj=>absurd hj (Nat.not_lt_zero _)⟩
 case round=>
  obtain⟨j,hj,rfl,HA⟩:=hrel;by_cases hlt:j<xs.length
  ·obtain⟨b,off,rfl,hbs,hc0,hc1⟩:=h.at j hlt;clear hc1
   cases he:((xs.getD j z0c).key==k)
   ·have HB:Hid (∀i,i<j+1→((xs.getD i z0c).key==k)=false):=by
     intro i hi;by_cases hij:i=j
     ·subst hij;exact he
     ·exact HA.out i (by omega)
    clear HA;generalize (xs.getD j z0c).key=z at hc0 he
    go_wp2
    go_round
    case rel=>exact⟨j+1,by omega,by go_num,HB⟩
    case measure=>simp[intOf];omega
   ·have E:Hid (hasI xs k=true∧valI xs k=(xs.getD j z0c).val):=z9D hlt HA.out he;clear HA;generalize (xs.getD j z0c).key=z at hc0 he
    go_wp2
    go_ret;exact⟨_,rfl,Or.inr ⟨j,rfl,hlt,E.out.1,E.out.2⟩,rfl⟩
  ·have hjl:j=xs.length:=by omega
   subst hjl;have E:Hid (hasI xs k=false∧valI xs k=0):=q04 HA.out;clear HA
   go_wp2
   go_ret;exact⟨_,rfl,Or.inl ⟨rfl,E.out.1,E.out.2⟩,rfl⟩
theorem z1Q(a:Option Addr)(cap:Nat)(xs:List ItemD)(k:Int)(w:World)(h:ItemRow w a xs)(hl:xs.length≤1048576):
  Calls Tryz.prog 167 #[.slice a xs.length cap,.int .i64 k] w fun e w'=>e=.returned (.int .i64 (valI xs k))∧w'=w:=by
 have hc:=fun w h=>z6n a cap xs k w h hl
 go_enter Tryz.func167,Tryz.ntmps167
 go_wp2_with fail
 refine(hc _ h).mono ?_;rintro e w' ⟨r,rfl,⟨rfl,_,ev⟩|⟨j,rfl,hj,_,ev⟩,hw⟩
 ·replace hw:=hw.symm;subst hw
  go_wp2
  go_ret;rw[ev];exact⟨rfl,rfl⟩
 ·replace hw:=hw.symm;subst hw;obtain⟨b,off,rfl,hbs,hc0,hc1⟩:=h.at j hj;have E:Hid (valI xs k=(xs.getD j z0c).val):=ev;clear hc0 ev hc;generalize (xs.getD j z0c).val=z at hc1 E
  go_wp2
  go_ret;rw[E.out];exact⟨rfl,rfl⟩
theorem z5l(xs:List ItemD)(q:Int)(k:Nat)(hk:k<xs.length):delI (xs.take (k+1)) q=delI (xs.take k) q++(if((xs.getD k z0c).key==q)=true then []else [xs.getD k z0c]):=by
 have e:xs.getD k z0c=xs[k]:=by simp[List.getD,hk]
 unfold delI;rw[List.take_succ_eq_append_getElem hk,List.filter_append,e]
 congr 1
 cases hp:(xs[k].key==q)<;>simp[hp]
theorem q05{zs:List ItemD}{k:Nat}(h:k<zs.length):zs.drop k=zs.getD k z0c::zs.drop (k+1):=by
 have e:zs.getD k z0c=zs[k]:=by simp[List.getD,h]
 rw[List.drop_eq_getElem_cons h,e]
theorem z0C(xs:List ItemD)(z:ItemD):z0h (xs++[z])=z0h xs++[.int .i64 z.key,.int .i64 z.val]:=by simp[z0h,ItemD.cells]
theorem z9E(a:Option Addr)(cap:Nat)(xs:List ItemD)(q:Int)(w:World)(h:ItemRow w a xs)(hl:xs.length≤100):
  Calls Tryz.prog 189 #[.slice a xs.length cap,.int .i64 q] w fun e w'=>∃b c,e=.returned (.slice b (delI xs q).length c)∧
   w'.ownsRow w.heap.size 187 2 (.slice b (delI xs q).length c) (delI xs q).length (z0h (delI xs q))∧Below w.heap.size w w':=by
 obtain⟨i0,hi,V,W,X⟩:=info_parts z1H;go_enter Tryz.func189,Tryz.ntmps189
 go_wp2
 go_loopw[5,6] (fun v j wr=>∃k:Nat,k≤xs.length∧j=.int .i64 k∧wr.ownsRow w.heap.size 187 2 v (delI (xs.take k) q).length (z0h (delI (xs.take k) q))∧Below w.heap.size w wr) (fun _ j _=>xs.length-(intOf j).toNat)
 case atStart=>exact⟨0,Nat.zero_le _,rfl,by rw[List.take_zero];exact World.ownsRow_lit w #[] 0 (Nat.le_refl _) (by decide) rfl,by go_grown⟩
 case round=>
  obtain⟨k,hk,rfl,ho,hb⟩:=hrel;obtain⟨a1,c1,rfl⟩:=z0g ho;have O:=hb.size;by_cases M:k<xs.length
  ·obtain⟨b,J,rfl,I,d,A⟩:=h.at k M;have hs:=z5l xs q k M;have T:(delI (xs.take k) q).length≤100:=by have:=z4N (xs.take k) q;simp at this;omega
   generalize delI (xs.take k) q=F at ho hs T
   cases he:((xs.getD k z0c).key==q)
   ·have HS:Hid (delI (xs.take (k+1)) q=F++[xs.getD k z0c]):=by
     show _=_;rw[hs,he];simp
    have C:((xs.getD k z0c).key !=q)=true:=by unfold bne;rw[he];rfl
    clear hs;generalize xs.getD k z0c=z at d A he HS C;obtain⟨z0,z1⟩:=z;dsimp only at d A he C;have d0:=(hb.cell (p:=⟨b,J+k*2,none⟩) I).trans d;have d1:=(hb.cell (p:=⟨b,J+k*2+1,none⟩) I).trans A;have L:Below w.heap.size wr (wr.alloc (.cells #[.int .i64 z0,.int .i64 z1] 187)):=(Below.refl _ _).alloc (by omega) _;have N:=ho.alloc (.cells #[.int .i64 z0,.int .i64 z1] 187)
    go_wp2_with (at_builtin;refine wpList_append_own _ rfl _ _ 70 rfl w.heap.size 187 i0 (.agg #[.int .i64 0,.int .i64 0]) 2 16 Tryz.underlying70 hi V W X rfl (by decide) _ F.length (z0h F) rfl N ⟨wr.heap.size,0,none⟩ 1 1 [.int .i64 z0,.int .i64 z1] rfl rfl ?c1 ?c2 ?c3 ?c4 ?c5 ?_)
    all_goals try(case c1=>intro j u hj;match j,hj with|0,hj=>simp at hj;subst hj;simp[Addr.add]|1,hj=>simp at hj;subst hj;simp[Addr.add])
    all_goals try(case c2=>first|rfl|(intro u hu;simp at hu;rcases hu with rfl|rfl<;>rfl))
    all_goals try(case c3=>unfold maxLen;omega)
    all_goals try(case c4=>omega)
    all_goals try(case c5=>first|omega|(simp;omega))
    intro v' w3 y x _;obtain⟨a2,c2,rfl⟩:=z0g y;have E:Below w.heap.size wr w3:=L.grown x (by simp;omega) (fun j hj=>(ho.lt j hj).1);replace hb:=hb.trans E;have D:=Nat.le_trans O E.size;replace O:=D;replace ho:=y;clear L x N y E D d0 d1;have R:Hid (_∧_):=⟨ho,hb⟩
    clear ho hb
    go_wp2
    go_roundw
    case rel=>
     refine⟨k+1,by omega,by go_num,?_,R.out.2⟩;rw[HS.out,z0C];simpa using R.out.1
    case measure=>simp[intOf];omega
   ·have HS:Hid (delI (xs.take (k+1)) q=F):=by
     show _=_;rw[hs,he];simp
    have C:((xs.getD k z0c).key !=q)=false:=by unfold bne;rw[he];rfl
    clear hs;have d0:=(hb.cell (p:=⟨b,J+k*2,none⟩) I).trans d;generalize (xs.getD k z0c).key=z0 at d0 he C;have R:Hid (_∧_):=⟨ho,hb⟩
    clear ho hb d A
    go_wp2
    go_roundw
    case rel=>exact⟨k+1,by omega,by go_num,by rw[HS.out];exact R.out.1,R.out.2⟩
    case measure=>simp[intOf];omega
  ·have U:k=xs.length:=by omega
   subst U;rw[List.take_length]at ho
   go_wp2
   go_ret;simp only[List.take_length];exact⟨_,_,rfl,ho,hb⟩
theorem q06(x y:ItemD)(r:List ItemD)(d:Bool):setR x d (y::r)=(if !d && decide (x.key≤y.key)then [x]else [])++((if y.key==x.key then []else [y])++setR x (d||decide (x.key≤y.key)) r):=rfl
theorem q07(a:Option Addr)(cap:Nat)(xs:List ItemD)(x0 x1:Int)(w:World)(h:ItemRow w a xs)(hl:xs.length≤100):
  Calls Tryz.prog 190 #[.slice a xs.length cap,.agg #[.int .i64 x0,.int .i64 x1]] w fun e w'=>∃b c,e=.returned (.slice b (setR ⟨x0,x1⟩ false xs).length c)∧
   w'.ownsRow w.heap.size 187 2 (.slice b (setR ⟨x0,x1⟩ false xs).length c) (setR ⟨x0,x1⟩ false xs).length (z0h (setR ⟨x0,x1⟩ false xs))∧Below w.heap.size w w':=by
 obtain⟨i0,hi,Y,Z,aa⟩:=info_parts z1H;have X:Below w.heap.size w (w.alloc (.cells #[.int .i64 x0,.int .i64 x1] 187)):=by go_grown
 have V:(w.alloc (.cells #[.int .i64 x0,.int .i64 x1] 187)).cell? ⟨w.heap.size,0,none⟩=some (.int .i64 x0):=by simp
 have ah:(w.alloc (.cells #[.int .i64 x0,.int .i64 x1] 187)).cell? ⟨w.heap.size,1,none⟩=some (.int .i64 x1):=by simp
 have T:w.heap.size<w.heap.size+1:=Nat.lt_succ_self _;have af:Below (w.heap.size+1) (w.alloc (.cells #[.int .i64 x0,.int .i64 x1] 187)) ((w.alloc (.cells #[.int .i64 x0,.int .i64 x1] 187)).alloc (.cells #[] 187)):=(Below.refl _ _).alloc (by simp) _;have aj:((w.alloc (.cells #[.int .i64 x0,.int .i64 x1] 187)).alloc (.cells #[] 187)).ownsRow (w.heap.size+1) 187 2 (.slice (some ⟨w.heap.size+1,0,none⟩) 0 0) 0 []:=by
  have:=World.ownsRow_lit (size:=2) (e:=187) (w.alloc (.cells #[.int .i64 x0,.int .i64 x1] 187)) #[] 0 (Nat.le_refl _) (by decide) rfl;rw[World.size_alloc]at this;exact this
 have ak:w.heap.size+1≤((w.alloc (.cells #[.int .i64 x0,.int .i64 x1] 187)).alloc (.cells #[] 187)).heap.size:=by simp
 go_enter Tryz.func190,Tryz.ntmps190
 go_wp2
 generalize (w.alloc (.cells #[.int .i64 x0,.int .i64 x1] 187)).alloc (.cells #[] 187)=WE at af aj ak;generalize w.alloc (.cells #[.int .i64 x0,.int .i64 x1] 187)=W0 at X V ah af;have am:∀b,b<w.heap.size→b<w.heap.size+1:=fun b hb=>by omega
 have ao:=X.size;go_loopw[5,6,7] (fun v dv j wr=>∃ (k:Nat) (d:Bool) (L:List ItemD),k≤xs.length∧j=.int .i64 k∧dv=.bool d∧L.length≤2*k∧wr.ownsRow (w.heap.size+1) 187 2 v L.length (z0h L)∧Below (w.heap.size+1) W0 wr∧w.heap.size+1≤wr.heap.size∧Hid (L++setR ⟨x0,x1⟩ d (xs.drop k)=setR ⟨x0,x1⟩ false xs)) (fun _ _ j _=>xs.length-(intOf j).toNat)
 case atStart=>exact⟨0,false,[],Nat.zero_le _,rfl,rfl,by simp,aj,af,ak,by show _=_;simp⟩
 case round=>
  clear aj af ak;obtain⟨k,d,L,hk,rfl,rfl,ap,ho,hb,y,HI⟩:=hrel;obtain⟨a1,c1,rfl⟩:=z0g ho;by_cases al:k<xs.length
  ·obtain⟨b,M,rfl,ae,N,W⟩:=h.at k al;replace N:W0.cell? _=_:=(X.cell (p:=⟨b,M+k*2,none⟩) ae).trans N;replace W:W0.cell? _=_:=(X.cell (p:=⟨b,M+k*2+1,none⟩) ae).trans W;have O:=am b ae;have U:=HI.out;rw[q05 al,q06]at U;generalize xs.getD k z0c=z at N W U;obtain⟨z0,z1⟩:=z;dsimp only at N W U;clear HI
   cases hE:(z0==x0)
   ·have E:(z0 !=x0)=true:=by simp[bne,hE]
    cases d
    ·by_cases ag:x0≤z0
     ·have hG:decide (x0≤z0)=true:=by simp[ag]
      have HS:Hid ((L++[⟨x0,x1⟩]++[⟨z0,z1⟩])++setR ⟨x0,x1⟩ true (xs.drop (k+1))=setR ⟨x0,x1⟩ false xs):=by
       show _=_;rw[←U];simp only[Bool.not_true,Bool.not_false,Bool.false_and,Bool.true_and,Bool.true_or,Bool.false_or,hE,hG,if_true,if_false,Bool.false_eq_true,List.nil_append,List.append_assoc,List.cons_append]
      clear U;have d0:=z0a ((hb.cell (p:=⟨b,M+k*2,none⟩) O).trans N);have d1:=z0a ((hb.cell (p:=⟨w.heap.size,0,none⟩) T).trans V);have hW:Below wr.heap.size wr wr.drew:=(Below.refl _ _).drew;have E:Nonempty (Lat wr):=⟨⟨wr,Below.refl _ _⟩⟩
      go_wp2_with fail
      refine z0b (S:=fun w'=>∃u:Lat wr,w'=u.val) (by kernel_rfl) ?_;refine sgr [(0,12)] 0 (by kernel_rfl) ⟨⟨_,hW⟩,rfl⟩ ?_;simp only[pkE];repeat go_big_quiet_step (fail)
      refine wpQuiet_nil ?_;refine z0f (by kernel_rfl) ?_;replace ho:=z0d ho hW;replace hb:=hb.trans (hW.mono y);have x:=Nat.le_trans y hW.size;replace y:=x;clear hW E x d0 d1;generalize wr.drew=u1 at ho hb y;have d0:=(hb.cell (p:=⟨w.heap.size,0,none⟩) T).trans V;have d1:=(hb.cell (p:=⟨w.heap.size,1,none⟩) T).trans ah;have I:Below (w.heap.size+1) u1 (u1.alloc (.cells #[.int .i64 x0,.int .i64 x1] 187)):=(Below.refl _ _).alloc (by omega) _;have J:=ho.alloc (.cells #[.int .i64 x0,.int .i64 x1] 187)
      go_wp2_with (at_builtin;refine wpList_append_own _ rfl _ _ 70 rfl (w.heap.size+1) 187 i0 (.agg #[.int .i64 0,.int .i64 0]) 2 16 Tryz.underlying70 hi Y Z aa rfl (by decide) _ L.length (z0h L) rfl J ⟨u1.heap.size,0,none⟩ 1 1 [.int .i64 x0,.int .i64 x1] rfl rfl ?c1 ?c2 ?c3 ?c4 ?c5 ?_)
      all_goals try(case c1=>intro j u hj;match j,hj with|0,hj=>simp at hj;subst hj;simp[Addr.add]|1,hj=>simp at hj;subst hj;simp[Addr.add])
      all_goals try(case c2=>first|rfl|(intro u hu;simp at hu;rcases hu with rfl|rfl<;>rfl))
      all_goals try(case c3=>unfold maxLen;omega)
      all_goals try(case c4=>omega)
      all_goals try(case c5=>first|omega|(simp;omega))
      intro v' u2 C A _;obtain⟨a2,c2,rfl⟩:=z0g C;have D:Below (w.heap.size+1) u1 u2:=I.grown A (by simp;omega) (fun j hj=>(ho.lt j hj).1);replace hb:=hb.trans D;have x:=Nat.le_trans y D.size;replace y:=x;replace ho:=C;clear I A J C D x d0 d1;replace ho:u2.ownsRow (w.heap.size+1) 187 2 (.slice a2 (L.length+1) c2) (L.length+1) (z0h (L++[⟨x0,x1⟩])):=by rw[z0C];simpa using ho
      generalize ad:L++[(⟨x0,x1⟩:ItemD)]=L2 at ho HS;have ab:Hid (L2.length=L.length+1):=by
       show _=_;rw[←ad];simp
      clear ad;have d0:=z0a ((hb.cell (p:=⟨b,M+k*2,none⟩) O).trans N);have d1:=z0a ((hb.cell (p:=⟨w.heap.size,0,none⟩) T).trans V);have hW:Below u2.heap.size u2 u2.drew:=(Below.refl _ _).drew;have E:Nonempty (Lat u2):=⟨⟨u2,Below.refl _ _⟩⟩
      go_wp2_with fail
      refine z0b (S:=fun w'=>∃u:Lat u2,w'=u.val) (by kernel_rfl) ?_;refine sgr [(0,8)] 0 (by kernel_rfl) ⟨⟨_,hW⟩,rfl⟩ ?_;simp only[pkE];repeat go_big_quiet_step (fail)
      refine wpQuiet_nil ?_;refine z0f (by kernel_rfl) ?_;replace ho:=z0d ho hW;replace hb:=hb.trans (hW.mono y);have x:=Nat.le_trans y hW.size;replace y:=x;clear hW E x d0 d1;generalize u2.drew=u3 at ho hb y;have d0:=(hb.cell (p:=⟨b,M+k*2,none⟩) O).trans N;have d1:=(hb.cell (p:=⟨b,M+k*2+1,none⟩) O).trans W;have I:Below (w.heap.size+1) u3 (u3.alloc (.cells #[.int .i64 z0,.int .i64 z1] 187)):=(Below.refl _ _).alloc (by omega) _;have J:=ho.alloc (.cells #[.int .i64 z0,.int .i64 z1] 187)
      go_wp2_with (at_builtin;refine wpList_append_own _ rfl _ _ 70 rfl (w.heap.size+1) 187 i0 (.agg #[.int .i64 0,.int .i64 0]) 2 16 Tryz.underlying70 hi Y Z aa rfl (by decide) _ (L.length+1) (z0h L2) rfl J ⟨u3.heap.size,0,none⟩ 1 1 [.int .i64 z0,.int .i64 z1] rfl rfl ?c1 ?c2 ?c3 ?c4 ?c5 ?_)
      all_goals try(case c1=>intro j u hj;match j,hj with|0,hj=>simp at hj;subst hj;simp[Addr.add]|1,hj=>simp at hj;subst hj;simp[Addr.add])
      all_goals try(case c2=>first|rfl|(intro u hu;simp at hu;rcases hu with rfl|rfl<;>rfl))
      all_goals try(case c3=>unfold maxLen;omega)
      all_goals try(case c4=>omega)
      all_goals try(case c5=>first|omega|(simp;omega))
      intro v' u4 C A _;obtain⟨a4,c4,rfl⟩:=z0g C;have D:Below (w.heap.size+1) u3 u4:=I.grown A (by simp;omega) (fun j hj=>(ho.lt j hj).1);replace hb:=hb.trans D;have x:=Nat.le_trans y D.size;replace y:=x;replace ho:=C;clear I A J C D x d0 d1;have R:Hid (_∧_∧_):=⟨ho,hb,y⟩
      clear ho hb y
      go_wp2
      go_roundw
      case rel=>
       refine⟨k+1,true,L2++[⟨z0,z1⟩],by omega,by go_num,rfl,by have:=ab.out;first|(simp;omega)|omega,?_,R.out.2.1,R.out.2.2,HS⟩;have:=R.out.1;rw[z0C];simpa[ab.out]using this
      case measure=>simp[intOf];omega
     ·have hG:decide (x0≤z0)=false:=by simp[ag]
      have HS:Hid ((L++[⟨z0,z1⟩])++setR ⟨x0,x1⟩ false (xs.drop (k+1))=setR ⟨x0,x1⟩ false xs):=by
       show _=_;rw[←U];simp only[Bool.not_true,Bool.not_false,Bool.false_and,Bool.true_and,Bool.true_or,Bool.false_or,hE,hG,if_true,if_false,Bool.false_eq_true,List.nil_append,List.append_assoc,List.cons_append]
      clear U;have d0:=z0a ((hb.cell (p:=⟨b,M+k*2,none⟩) O).trans N);have d1:=z0a ((hb.cell (p:=⟨w.heap.size,0,none⟩) T).trans V);have hW:Below wr.heap.size wr wr.drew:=(Below.refl _ _).drew;have E:Nonempty (Lat wr):=⟨⟨wr,Below.refl _ _⟩⟩
      go_wp2_with fail
      refine z0b (S:=fun w'=>∃u:Lat wr,w'=u.val) (by kernel_rfl) ?_;refine sgr [(0,12)] 0 (by kernel_rfl) ⟨⟨_,hW⟩,rfl⟩ ?_;simp only[pkE];repeat go_big_quiet_step (fail)
      refine wpQuiet_nil ?_;refine z0f (by kernel_rfl) ?_;replace ho:=z0d ho hW;replace hb:=hb.trans (hW.mono y);have x:=Nat.le_trans y hW.size;replace y:=x;clear hW E x d0 d1;generalize wr.drew=u1 at ho hb y;have d0:=z0a ((hb.cell (p:=⟨b,M+k*2,none⟩) O).trans N);have d1:=z0a ((hb.cell (p:=⟨w.heap.size,0,none⟩) T).trans V);have hW:Below u1.heap.size u1 u1.drew:=(Below.refl _ _).drew;have E:Nonempty (Lat u1):=⟨⟨u1,Below.refl _ _⟩⟩
      go_wp2_with fail
      refine z0b (S:=fun w'=>∃u:Lat u1,w'=u.val) (by kernel_rfl) ?_;refine sgr [(0,8)] 0 (by kernel_rfl) ⟨⟨_,hW⟩,rfl⟩ ?_;simp only[pkE];repeat go_big_quiet_step (fail)
      refine wpQuiet_nil ?_;refine z0f (by kernel_rfl) ?_;replace ho:=z0d ho hW;replace hb:=hb.trans (hW.mono y);have x:=Nat.le_trans y hW.size;replace y:=x;clear hW E x d0 d1;generalize u1.drew=u3 at ho hb y;have d0:=(hb.cell (p:=⟨b,M+k*2,none⟩) O).trans N;have d1:=(hb.cell (p:=⟨b,M+k*2+1,none⟩) O).trans W;have I:Below (w.heap.size+1) u3 (u3.alloc (.cells #[.int .i64 z0,.int .i64 z1] 187)):=(Below.refl _ _).alloc (by omega) _;have J:=ho.alloc (.cells #[.int .i64 z0,.int .i64 z1] 187)
      go_wp2_with (at_builtin;refine wpList_append_own _ rfl _ _ 70 rfl (w.heap.size+1) 187 i0 (.agg #[.int .i64 0,.int .i64 0]) 2 16 Tryz.underlying70 hi Y Z aa rfl (by decide) _ L.length (z0h L) rfl J ⟨u3.heap.size,0,none⟩ 1 1 [.int .i64 z0,.int .i64 z1] rfl rfl ?c1 ?c2 ?c3 ?c4 ?c5 ?_)
      all_goals try(case c1=>intro j u hj;match j,hj with|0,hj=>simp at hj;subst hj;simp[Addr.add]|1,hj=>simp at hj;subst hj;simp[Addr.add])
      all_goals try(case c2=>first|rfl|(intro u hu;simp at hu;rcases hu with rfl|rfl<;>rfl))
      all_goals try(case c3=>unfold maxLen;omega)
      all_goals try(case c4=>omega)
      all_goals try(case c5=>first|omega|(simp;omega))
      intro v' u4 C A _;obtain⟨a4,c4,rfl⟩:=z0g C;have D:Below (w.heap.size+1) u3 u4:=I.grown A (by simp;omega) (fun j hj=>(ho.lt j hj).1);replace hb:=hb.trans D;have x:=Nat.le_trans y D.size;replace y:=x;replace ho:=C;clear I A J C D x d0 d1;have R:Hid (_∧_∧_):=⟨ho,hb,y⟩
      clear ho hb y
      go_wp2
      go_roundw
      case rel=>
       refine⟨k+1,false,L++[⟨z0,z1⟩],by omega,by go_num,rfl,by first|(simp;omega)|omega,?_,R.out.2.1,R.out.2.2,HS⟩;have:=R.out.1;rw[z0C];simpa using this
      case measure=>simp[intOf];omega
    ·have HS:Hid ((L++[⟨z0,z1⟩])++setR ⟨x0,x1⟩ true (xs.drop (k+1))=setR ⟨x0,x1⟩ false xs):=by
      show _=_;rw[←U];simp only[Bool.not_true,Bool.not_false,Bool.false_and,Bool.true_and,Bool.true_or,Bool.false_or,hE,if_true,if_false,Bool.false_eq_true,List.nil_append,List.append_assoc,List.cons_append]
     clear U;have hW:Below wr.heap.size wr wr.drew:=(Below.refl _ _).drew;have E:Nonempty (Lat wr):=⟨⟨wr,Below.refl _ _⟩⟩
     go_wp2_with fail
     refine z0b (S:=fun w'=>∃u:Lat wr,w'=u.val) (by kernel_rfl) ?_;refine sgr [(0,12)] 0 (by kernel_rfl) ⟨⟨_,hW⟩,rfl⟩ ?_;simp only[pkE];repeat go_big_quiet_step (fail)
     refine wpQuiet_nil ?_;refine z0f (by kernel_rfl) ?_;replace ho:=z0d ho hW;replace hb:=hb.trans (hW.mono y);have x:=Nat.le_trans y hW.size;replace y:=x;clear hW E x;generalize wr.drew=u1 at ho hb y;have d0:=z0a ((hb.cell (p:=⟨b,M+k*2,none⟩) O).trans N);have d1:=z0a ((hb.cell (p:=⟨w.heap.size,0,none⟩) T).trans V);have hW:Below u1.heap.size u1 u1.drew:=(Below.refl _ _).drew;have E:Nonempty (Lat u1):=⟨⟨u1,Below.refl _ _⟩⟩
     go_wp2_with fail
     refine z0b (S:=fun w'=>∃u:Lat u1,w'=u.val) (by kernel_rfl) ?_;refine sgr [(0,8)] 0 (by kernel_rfl) ⟨⟨_,hW⟩,rfl⟩ ?_;simp only[pkE];repeat go_big_quiet_step (fail)
     refine wpQuiet_nil ?_;refine z0f (by kernel_rfl) ?_;replace ho:=z0d ho hW;replace hb:=hb.trans (hW.mono y);have x:=Nat.le_trans y hW.size;replace y:=x;clear hW E x d0 d1;generalize u1.drew=u3 at ho hb y;have d0:=(hb.cell (p:=⟨b,M+k*2,none⟩) O).trans N;have d1:=(hb.cell (p:=⟨b,M+k*2+1,none⟩) O).trans W;have I:Below (w.heap.size+1) u3 (u3.alloc (.cells #[.int .i64 z0,.int .i64 z1] 187)):=(Below.refl _ _).alloc (by omega) _;have J:=ho.alloc (.cells #[.int .i64 z0,.int .i64 z1] 187)
     go_wp2_with (at_builtin;refine wpList_append_own _ rfl _ _ 70 rfl (w.heap.size+1) 187 i0 (.agg #[.int .i64 0,.int .i64 0]) 2 16 Tryz.underlying70 hi Y Z aa rfl (by decide) _ L.length (z0h L) rfl J ⟨u3.heap.size,0,none⟩ 1 1 [.int .i64 z0,.int .i64 z1] rfl rfl ?c1 ?c2 ?c3 ?c4 ?c5 ?_)
     all_goals try(case c1=>intro j u hj;match j,hj with|0,hj=>simp at hj;subst hj;simp[Addr.add]|1,hj=>simp at hj;subst hj;simp[Addr.add])
     all_goals try(case c2=>first|rfl|(intro u hu;simp at hu;rcases hu with rfl|rfl<;>rfl))
     all_goals try(case c3=>unfold maxLen;omega)
     all_goals try(case c4=>omega)
     all_goals try(case c5=>first|omega|(simp;omega))
     intro v' u4 C A _;obtain⟨a4,c4,rfl⟩:=z0g C;have D:Below (w.heap.size+1) u3 u4:=I.grown A (by simp;omega) (fun j hj=>(ho.lt j hj).1);replace hb:=hb.trans D;have x:=Nat.le_trans y D.size;replace y:=x;replace ho:=C;clear I A J C D x d0 d1;have R:Hid (_∧_∧_):=⟨ho,hb,y⟩
     clear ho hb y
     go_wp2
     go_roundw
     case rel=>
      refine⟨k+1,true,L++[⟨z0,z1⟩],by omega,by go_num,rfl,by first|(simp;omega)|omega,?_,R.out.2.1,R.out.2.2,HS⟩;have:=R.out.1;rw[z0C];simpa using this
     case measure=>simp[intOf];omega
   ·have E:(z0 !=x0)=false:=by simp[bne,hE]
    cases d
    ·have ag:x0≤z0:=by simp at hE;omega
     have hG:decide (x0≤z0)=true:=by simp[ag]
     have HS:Hid ((L++[⟨x0,x1⟩])++setR ⟨x0,x1⟩ true (xs.drop (k+1))=setR ⟨x0,x1⟩ false xs):=by
      show _=_;rw[←U];simp only[Bool.not_true,Bool.not_false,Bool.false_and,Bool.true_and,Bool.true_or,Bool.false_or,hE,hG,if_true,if_false,Bool.false_eq_true,List.nil_append,List.append_assoc,List.cons_append]
     clear U;have d0:=z0a ((hb.cell (p:=⟨b,M+k*2,none⟩) O).trans N);have d1:=z0a ((hb.cell (p:=⟨w.heap.size,0,none⟩) T).trans V);have hW:Below wr.heap.size wr wr.drew:=(Below.refl _ _).drew;have E:Nonempty (Lat wr):=⟨⟨wr,Below.refl _ _⟩⟩
     go_wp2_with fail
     refine z0b (S:=fun w'=>∃u:Lat wr,w'=u.val) (by kernel_rfl) ?_;refine sgr [(0,12)] 0 (by kernel_rfl) ⟨⟨_,hW⟩,rfl⟩ ?_;simp only[pkE];repeat go_big_quiet_step (fail)
     refine wpQuiet_nil ?_;refine z0f (by kernel_rfl) ?_;replace ho:=z0d ho hW;replace hb:=hb.trans (hW.mono y);have x:=Nat.le_trans y hW.size;replace y:=x;clear hW E x d0 d1;generalize wr.drew=u1 at ho hb y;have d0:=(hb.cell (p:=⟨w.heap.size,0,none⟩) T).trans V;have d1:=(hb.cell (p:=⟨w.heap.size,1,none⟩) T).trans ah;have I:Below (w.heap.size+1) u1 (u1.alloc (.cells #[.int .i64 x0,.int .i64 x1] 187)):=(Below.refl _ _).alloc (by omega) _;have J:=ho.alloc (.cells #[.int .i64 x0,.int .i64 x1] 187)
     go_wp2_with (at_builtin;refine wpList_append_own _ rfl _ _ 70 rfl (w.heap.size+1) 187 i0 (.agg #[.int .i64 0,.int .i64 0]) 2 16 Tryz.underlying70 hi Y Z aa rfl (by decide) _ L.length (z0h L) rfl J ⟨u1.heap.size,0,none⟩ 1 1 [.int .i64 x0,.int .i64 x1] rfl rfl ?c1 ?c2 ?c3 ?c4 ?c5 ?_)
     all_goals try(case c1=>intro j u hj;match j,hj with|0,hj=>simp at hj;subst hj;simp[Addr.add]|1,hj=>simp at hj;subst hj;simp[Addr.add])
     all_goals try(case c2=>first|rfl|(intro u hu;simp at hu;rcases hu with rfl|rfl<;>rfl))
     all_goals try(case c3=>unfold maxLen;omega)
     all_goals try(case c4=>omega)
     all_goals try(case c5=>first|omega|(simp;omega))
     intro v' u2 C A _;obtain⟨a2,c2,rfl⟩:=z0g C;have D:Below (w.heap.size+1) u1 u2:=I.grown A (by simp;omega) (fun j hj=>(ho.lt j hj).1);replace hb:=hb.trans D;have x:=Nat.le_trans y D.size;replace y:=x;replace ho:=C;clear I A J C D x d0 d1;replace ho:u2.ownsRow (w.heap.size+1) 187 2 (.slice a2 (L.length+1) c2) (L.length+1) (z0h (L++[⟨x0,x1⟩])):=by rw[z0C];simpa using ho
     generalize ad:L++[(⟨x0,x1⟩:ItemD)]=L2 at ho HS;have ab:Hid (L2.length=L.length+1):=by
      show _=_;rw[←ad];simp
     clear ad;have d0:=z0a ((hb.cell (p:=⟨b,M+k*2,none⟩) O).trans N);have d1:=z0a ((hb.cell (p:=⟨w.heap.size,0,none⟩) T).trans V);have hW:Below u2.heap.size u2 u2.drew:=(Below.refl _ _).drew;have E:Nonempty (Lat u2):=⟨⟨u2,Below.refl _ _⟩⟩
     go_wp2_with fail
     refine z0b (S:=fun w'=>∃u:Lat u2,w'=u.val) (by kernel_rfl) ?_;refine sgr [(0,8)] 0 (by kernel_rfl) ⟨⟨_,hW⟩,rfl⟩ ?_;simp only[pkE];repeat go_big_quiet_step (fail)
     refine wpQuiet_nil ?_;refine z0f (by kernel_rfl) ?_;replace ho:=z0d ho hW;replace hb:=hb.trans (hW.mono y);have x:=Nat.le_trans y hW.size;replace y:=x;clear hW E x d0 d1;generalize u2.drew=u3 at ho hb y;have R:Hid (_∧_∧_):=⟨ho,hb,y⟩
     clear ho hb y
     go_wp2
     go_roundw
     case rel=>
      refine⟨k+1,true,L2,by omega,by go_num,rfl,by have:=ab.out;first|(simp;omega)|omega,?_,R.out.2.1,R.out.2.2,HS⟩;have:=R.out.1;skip;simpa[ab.out]using this
     case measure=>simp[intOf];omega
    ·have HS:Hid ((L)++setR ⟨x0,x1⟩ true (xs.drop (k+1))=setR ⟨x0,x1⟩ false xs):=by
      show _=_;rw[←U];simp only[Bool.not_true,Bool.not_false,Bool.false_and,Bool.true_and,Bool.true_or,Bool.false_or,hE,if_true,if_false,Bool.false_eq_true,List.nil_append,List.append_assoc,List.cons_append]
     clear U;have hW:Below wr.heap.size wr wr.drew:=(Below.refl _ _).drew;have E:Nonempty (Lat wr):=⟨⟨wr,Below.refl _ _⟩⟩
     go_wp2_with fail
     refine z0b (S:=fun w'=>∃u:Lat wr,w'=u.val) (by kernel_rfl) ?_;refine sgr [(0,12)] 0 (by kernel_rfl) ⟨⟨_,hW⟩,rfl⟩ ?_;simp only[pkE];repeat go_big_quiet_step (fail)
     refine wpQuiet_nil ?_;refine z0f (by kernel_rfl) ?_;replace ho:=z0d ho hW;replace hb:=hb.trans (hW.mono y);have x:=Nat.le_trans y hW.size;replace y:=x;clear hW E x;generalize wr.drew=u1 at ho hb y;have d0:=z0a ((hb.cell (p:=⟨b,M+k*2,none⟩) O).trans N);have d1:=z0a ((hb.cell (p:=⟨w.heap.size,0,none⟩) T).trans V);have hW:Below u1.heap.size u1 u1.drew:=(Below.refl _ _).drew;have E:Nonempty (Lat u1):=⟨⟨u1,Below.refl _ _⟩⟩
     go_wp2_with fail
     refine z0b (S:=fun w'=>∃u:Lat u1,w'=u.val) (by kernel_rfl) ?_;refine sgr [(0,8)] 0 (by kernel_rfl) ⟨⟨_,hW⟩,rfl⟩ ?_;simp only[pkE];repeat go_big_quiet_step (fail)
     refine wpQuiet_nil ?_;refine z0f (by kernel_rfl) ?_;replace ho:=z0d ho hW;replace hb:=hb.trans (hW.mono y);have x:=Nat.le_trans y hW.size;replace y:=x;clear hW E x d0 d1;generalize u1.drew=u3 at ho hb y;have R:Hid (_∧_∧_):=⟨ho,hb,y⟩
     clear ho hb y
     go_wp2
     go_roundw
     case rel=>
      refine⟨k+1,true,L,by omega,by go_num,rfl,by first|(simp;omega)|omega,?_,R.out.2.1,R.out.2.2,HS⟩;have:=R.out.1;skip;simpa using this
     case measure=>simp[intOf];omega
  ·have an:k=xs.length:=by omega
   subst an;have HT:Hid (L++setR ⟨x0,x1⟩ d []=setR ⟨x0,x1⟩ false xs):=by
    have:=HI.out;rw[List.drop_length]at this;exact this
   clear HI
   cases d
   ·have ai:Hid (setR ⟨x0,x1⟩ false xs=L++[⟨x0,x1⟩]):=HT.out.symm;clear HT;have d0:=(hb.cell (p:=⟨w.heap.size,0,none⟩) T).trans V;have d1:=(hb.cell (p:=⟨w.heap.size,1,none⟩) T).trans ah;have I:Below (w.heap.size+1) wr (wr.alloc (.cells #[.int .i64 x0,.int .i64 x1] 187)):=(Below.refl _ _).alloc (by omega) _;have J:=ho.alloc (.cells #[.int .i64 x0,.int .i64 x1] 187)
    go_wp2_with (at_builtin;refine wpList_append_own _ rfl _ _ 70 rfl (w.heap.size+1) 187 i0 (.agg #[.int .i64 0,.int .i64 0]) 2 16 Tryz.underlying70 hi Y Z aa rfl (by decide) _ L.length (z0h L) rfl J ⟨wr.heap.size,0,none⟩ 1 1 [.int .i64 x0,.int .i64 x1] rfl rfl ?c1 ?c2 ?c3 ?c4 ?c5 ?_)
    all_goals try(case c1=>intro j u hj;match j,hj with|0,hj=>simp at hj;subst hj;simp[Addr.add]|1,hj=>simp at hj;subst hj;simp[Addr.add])
    all_goals try(case c2=>first|rfl|(intro u hu;simp at hu;rcases hu with rfl|rfl<;>rfl))
    all_goals try(case c3=>unfold maxLen;omega)
    all_goals try(case c4=>omega)
    all_goals try(case c5=>first|omega|(simp;omega))
    intro v' u1 C A _;obtain⟨a2,c2,rfl⟩:=z0g C;have D:Below (w.heap.size+1) wr u1:=I.grown A (by simp;omega) (fun j hj=>(ho.lt j hj).1);replace hb:=hb.trans D;have x:=Nat.le_trans y D.size;replace y:=x;replace ho:=C;clear I A J C D x d0 d1
    go_wp2
    go_ret;rw[ai.out];refine⟨a2,c2,by simp,?_,X.trans (hb.mono (by omega))⟩;rw[z0C];simpa using z0p ho (by omega)
   ·have ai:Hid (setR ⟨x0,x1⟩ false xs=L):=by
     have:=HT.out;simp[setR]at this;exact this.symm
    clear HT
    go_wp2
    go_ret;rw[ai.out];exact⟨_,_,rfl,z0p ho (by omega),X.trans (hb.mono (by omega))⟩
def exC(xs:List ItemD)(i s q:Int)(zs:List ActD):Int:=if itemsF xs≠0 then itemsF xs else if txnF i s q zs≠0 then txnF i s q zs else(z0t xs zs).1
def exR(xs:List ItemD)(i s q:Int)(zs:List ActD):List ItemD:=if exC xs i s q zs=0 then(z0t xs zs).2 else []
def z4R(zs:List ActD):Int:=(zs.getD (zs.length-1) z0e).key
def exV(xs:List ItemD)(i s q:Int)(zs:List ActD):Int:=if exC xs i s q zs=0 then valI (z0t xs zs).2 (z4R zs)else 0
theorem q4m{xs:List ItemD}{i s q:Int}{zs:List ActD}(h:itemsF xs≠0):exC xs i s q zs=itemsF xs∧exR xs i s q zs=[]∧exV xs i s q zs=0:=by
 have e:exC xs i s q zs=itemsF xs:=if_pos h;exact⟨e,by simp[exR,e,h],by simp[exV,e,h]⟩
theorem q3s{xs:List ItemD}{i s q:Int}{zs:List ActD}(h:itemsF xs=0)(h2:txnF i s q zs≠0):exC xs i s q zs=txnF i s q zs∧exR xs i s q zs=[]∧exV xs i s q zs=0:=by
 have e:exC xs i s q zs=txnF i s q zs:=by simp[exC,h,h2]
 exact⟨e,by simp[exR,e,h2],by simp[exV,e,h2]⟩
theorem q3t{xs:List ItemD}{i s q:Int}{zs:List ActD}(h:itemsF xs=0)(h2:txnF i s q zs=0)(h3:(z0t xs zs).1≠0):exC xs i s q zs=(z0t xs zs).1∧exR xs i s q zs=[]∧exV xs i s q zs=0:=by
 have e:exC xs i s q zs=(z0t xs zs).1:=by simp[exC,h,h2]
 exact⟨e,by simp[exR,e,h3],by simp[exV,e,h3]⟩
theorem q4L{xs:List ItemD}{i s q:Int}{zs:List ActD}(h:itemsF xs=0)(h2:txnF i s q zs=0)(h3:(z0t xs zs).1=0):exC xs i s q zs=0∧exR xs i s q zs=(z0t xs zs).2∧exV xs i s q zs=valI (z0t xs zs).2 (z4R zs):=by
 have e:exC xs i s q zs=0:=by simp[exC,h,h2,h3]
 exact⟨e,by simp[exR,e],by simp[exV,e]⟩
theorem z1r(xs:List ItemD)(a:ActD)(r:List ActD):z0t xs (a::r)=if actC xs a=0 then z0t (actN xs a) r else(actC xs a,[]):=rfl
theorem z3b{zs:List ActD}{k:Nat}(h:k<zs.length):zs.drop k=zs.getD k z0e::zs.drop (k+1):=by
 have e:zs.getD k z0e=zs[k]:=by simp[List.getD,h]
 rw[List.drop_eq_getElem_cons h,e]
theorem z4S(a:Option Addr)(cap:Nat)(xs:List ItemD)(i s q:Int)(ta:Option Addr)(tc:Nat)(zs:List ActD)(w:World)(h:ItemRow w a xs)(ht:ActRow w ta zs)(hl:xs.length≤1048576)(av:zs.length≤1048576):
  Calls Tryz.prog 180 #[.slice a xs.length cap,.agg #[.int .i64 i,.int .i64 s,.int .i64 q,.slice ta zs.length tc]] w fun e w'=>∃b c,e=.returned (.agg #[.int .i64 (exC xs i s q zs),.int .i64 (exV xs i s q zs),.slice b (exR xs i s q zs).length c])∧
   w'.ownsRow w.heap.size 187 2 (.slice b (exR xs i s q zs).length c) (exR xs i s q zs).length (z0h (exR xs i s q zs))∧Below w.heap.size w w':=by
 have hF:=fun w h=>z2Y a cap xs w h hl
 have hT:=fun w h=>z11 i s q ta tc zs w h av
 have d:Below w.heap.size w ((w.alloc (.cells #[.int .i64 i,.int .i64 s,.int .i64 q,.slice ta zs.length tc] 82)).alloc (.cells #[.int .i64 0,.int .i64 0,.slice none 0 0] 215)):=by go_grown
 have B0:=Blk.new (w.alloc (.cells #[.int .i64 i,.int .i64 s,.int .i64 q,.slice ta zs.length tc] 82)) 215 #[.int .i64 0,.int .i64 0,.slice none 0 0];have Bt:=(Blk.new w 82 #[.int .i64 i,.int .i64 s,.int .i64 q,.slice ta zs.length tc]).below (w':=(w.alloc (.cells #[.int .i64 i,.int .i64 s,.int .i64 q,.slice ta zs.length tc] 82)).alloc (.cells #[.int .i64 0,.int .i64 0,.slice none 0 0] 215)) (by go_grown);rw[World.size_alloc]at B0;by_cases h0:itemsF xs=0
 case neg=>
  obtain⟨e1,e2,e3⟩:=q4m (i:=i) (s:=s) (q:=q) (zs:=zs) h0;rw[e1,e2,e3];have L:(itemsF xs !=0)=true:=by simpa using h0
  clear h0 e1 e2 e3;generalize itemsF xs=r at hF L;go_enter Tryz.func180,Tryz.ntmps180
  go_wp2_with fail
  generalize (w.alloc (.cells #[.int .i64 i,.int .i64 s,.int .i64 q,.slice ta zs.length tc] 82)).alloc (.cells #[.int .i64 0,.int .i64 0,.slice none 0 0] 215)=W0 at d B0 Bt;refine(hF _ (h.below d)).mono ?_;rintro e w1 ⟨rfl,hb⟩;replace B0:=B0.below hb;replace d:=d.trans (hb.mono d.size);obtain⟨p0,p1,p2⟩:=B0.cel3;obtain⟨f0,f1,f2⟩:=B0.frz3;have M:=B0.lt;clear hb B0 Bt
  go_wp2
  refine bodyPost_ret (v:=.agg #[.int .i64 r,.int .i64 0,.slice none 0 0]) (by simp[results,Tryz.results180,go_sem,p0,p1,p2]) rfl ⟨_,_,rfl,World.ownsRow_nil _ _ _ _,?_⟩;repeat' (refine Below.setCell ?_ (by dsimp only;omega) _)
  exact d
 by_cases h2:txnF i s q zs=0
 case neg=>
  obtain⟨e1,e2,e3⟩:=q3s h0 h2;rw[e1,e2,e3];have L:(txnF i s q zs !=0)=true:=by simpa using h2
  rw[h0]at hF;clear h0 h2 e1 e2 e3;generalize txnF i s q zs=r at hT L;go_enter Tryz.func180,Tryz.ntmps180
  go_wp2_with fail
  generalize (w.alloc (.cells #[.int .i64 i,.int .i64 s,.int .i64 q,.slice ta zs.length tc] 82)).alloc (.cells #[.int .i64 0,.int .i64 0,.slice none 0 0] 215)=W0 at d B0 Bt;refine(hF _ (h.below d)).mono ?_;rintro e w1 ⟨rfl,hb⟩;replace B0:=B0.below hb;replace Bt:=Bt.below hb;replace d:=d.trans (hb.mono d.size);obtain⟨q0,q1,q2,q3⟩:=Bt.cel4;clear hb
  go_wp2_with fail
  clear q0 q1 q2 q3 Bt;refine(hT _ (ht.below d)).mono ?_;rintro e w2 ⟨rfl,hb⟩;replace B0:=B0.below hb;replace d:=d.trans (hb.mono d.size);obtain⟨p0,p1,p2⟩:=B0.cel3;obtain⟨f0,f1,f2⟩:=B0.frz3;have M:=B0.lt;clear hb B0
  go_wp2
  refine bodyPost_ret (v:=.agg #[.int .i64 r,.int .i64 0,.slice none 0 0]) (by simp[results,Tryz.results180,go_sem,p0,p1,p2]) rfl ⟨_,_,rfl,World.ownsRow_nil _ _ _ _,?_⟩;repeat' (refine Below.setCell ?_ (by dsimp only;omega) _)
  exact d
 obtain⟨h8,g⟩:=z29 h0;obtain⟨⟨aD,aE⟩,X⟩:=z0S h2;have HB:Hid ((z0t xs zs).1≠0→exC xs i s q zs=(z0t xs zs).1∧exR xs i s q zs=[]∧exV xs i s q zs=0):=fun h3=>q3t h0 h2 h3
 have HK:Hid ((z0t xs zs).1=0→exC xs i s q zs=0∧exR xs i s q zs=(z0t xs zs).2∧exV xs i s q zs=valI (z0t xs zs).2 (z4R zs)):=fun h3=>q4L h0 h2 h3
 have HA:Hid (∀a∈zs,actF a=0):=X;have an:=fun w h=>z4P a cap xs w h h8 g
 rw[h0]at hF;rw[h2]at hT;clear h0 h2 X;go_enter Tryz.func180,Tryz.ntmps180
 go_wp2_with fail
 generalize (w.alloc (.cells #[.int .i64 i,.int .i64 s,.int .i64 q,.slice ta zs.length tc] 82)).alloc (.cells #[.int .i64 0,.int .i64 0,.slice none 0 0] 215)=W0 at d B0 Bt;refine(hF _ (h.below d)).mono ?_;rintro e w1 ⟨rfl,hb⟩;replace B0:=B0.below hb;replace Bt:=Bt.below hb;replace d:=d.trans (hb.mono d.size);obtain⟨q0,q1,q2,q3⟩:=Bt.cel4;clear hb
 go_wp2_with fail
 clear q0 q1 q2 q3;refine(hT _ (ht.below d)).mono ?_;rintro e w2 ⟨rfl,hb⟩;replace B0:=B0.below hb;replace Bt:=Bt.below hb;replace d:=d.trans (hb.mono d.size);clear hb
 go_wp2_with fail
 refine(an _ (h.below d)).mono ?_;rintro e w3 ⟨rfl,hS,hb⟩;have am:=B0.lt;have ax:=Bt.lt;replace B0:=B0.below hb;replace Bt:=Bt.below hb;have ay:=ht.below d;replace ht:=ht.below (d.trans (hb.mono d.size));have aB:=hS.lt;have ah:Below w.heap.size w w3:=d.trans (hb.mono d.size);have Z:=d.size;have Y:∀k,k<zs.length→∃b A,ta=some ⟨b,A,none⟩∧b<w2.heap.size:=fun k hk=>by
  obtain⟨b,A,e,J,_⟩:=(ay:ActRow w2 ta zs).at k hk;exact⟨b,A,e,J⟩
 clear hb an hT hF h;generalize w2.heap.size=sb at*;have q3:=Bt.cell 3 _ rfl
 go_wp2
 clear q3;have ag:=hS;clear hS;go_loopw[29] (fun j wr=>∃ (k:Nat) (y:List ItemD),k≤zs.length∧j=.int .i64 k∧ShelfAt wr sb y∧y.length≤8∧Hid (Good y∧z0t y (zs.drop k)=z0t xs zs)∧Below sb w3 wr) (fun j _=>zs.length-(intOf j).toNat)
 case atStart=>exact⟨0,xs,Nat.zero_le _,rfl,ag,h8,⟨g,by simp⟩,Below.refl _ _⟩
 case round=>
  clear ag;obtain⟨k,y,hk,rfl,hS,ae,HG,hb⟩:=hrel;have aC:=hS.lt;by_cases M:k<zs.length
  ·obtain⟨b,A,rfl,J⟩:=Y k M;obtain⟨b',ap,e,_,E,D,I⟩:=ht.at k M;simp only[Option.some.injEq,Addr.mk.injEq,and_true]at e;obtain⟨rfl,rfl⟩:=e;replace E:wr.cell? ⟨b,A+k*3,none⟩=_:=(hb.cell (p:=⟨b,A+k*3,none⟩) J).trans E;replace D:wr.cell? ⟨b,A+k*3+1,none⟩=_:=(hb.cell (p:=⟨b,A+k*3+1,none⟩) J).trans D;replace I:wr.cell? ⟨b,A+k*3+2,none⟩=_:=(hb.cell (p:=⟨b,A+k*3+2,none⟩) J).trans I;have V:=HA.out (zs.getD k z0e) (by simp[List.getD,M]);have C:=fun w h=>q2y sb y (zs.getD k z0e).kind (zs.getD k z0e).key (zs.getD k z0e).val w h ae HG.out.1 V
   change∀w h,Calls _ _ _ _ fun e w'=>e=.returned (.int .i64 (actC y (zs.getD k z0e)))∧(actC y (zs.getD k z0e)=0→ShelfAt w' sb (actN y (zs.getD k z0e)))∧_ at C
   have HD:Hid (z0t y (zs.getD k z0e::zs.drop (k+1))=z0t xs zs):=by
    have:=HG.out.2;rw[z3b M]at this;exact this
   by_cases hF:actC y (zs.getD k z0e)=0
   ·obtain⟨ak,al⟩:=z2n ae HG.out.1 V hF;have af:Hid (Good (actN y (zs.getD k z0e))∧z0t (actN y (zs.getD k z0e)) (zs.drop (k + 1))=z0t xs zs):=⟨al,by
     have:=HD.out;rw[z1r,if_pos hF]at this;exact this⟩
    rw[hF]at C;clear HD al HG V hF;generalize actN y (zs.getD k z0e)=nx at C af ak;generalize zs.getD k z0e=z at E D I C;obtain⟨z0,z1,z2⟩:=z;dsimp only at E D I C;have N:ShelfAt (wr.alloc (.cells #[.int .i64 z0,.int .i64 z1,.int .i64 z2] 118)) sb y:=hS.below (by go_grown);have T:Below sb w3 (wr.alloc (.cells #[.int .i64 z0,.int .i64 z1,.int .i64 z2] 118)):=hb.alloc (by omega) _
    go_wp2_with fail
    refine(C _ N).mono ?_;rintro e w5 ⟨rfl,hN,hO⟩;have W:=z3g T hO (Nat.le_refl _) (by simp;omega);have ar:=hN (by first|trivial|rfl);clear C hN hO T N hS hb
    go_wp2
    go_roundw
    case rel=>exact⟨k+1,nx,by omega,by go_num,ar,ak,af,W⟩
    case measure=>simp[intOf];omega
   ·have HC:Hid (z0t xs zs=(actC y (zs.getD k z0e),[])):=by
     have:=HD.out;rw[z1r,if_neg hF]at this;exact this.symm
    have HE:Hid (exC xs i s q zs=actC y (zs.getD k z0e)∧exR xs i s q zs=[]∧exV xs i s q zs=0):=by
     have:=HB.out (by rw[HC.out];exact hF);rw[HC.out]at this;exact this
    have L:(actC y (zs.getD k z0e) !=0)=true:=by simpa using hF
    clear HD HG V hF HC;generalize actC y (zs.getD k z0e)=r at C HE L;generalize zs.getD k z0e=z at E D I C;obtain⟨z0,z1,z2⟩:=z;dsimp only at E D I C;have N:ShelfAt (wr.alloc (.cells #[.int .i64 z0,.int .i64 z1,.int .i64 z2] 118)) sb y:=hS.below (by go_grown);have T:Below sb w3 (wr.alloc (.cells #[.int .i64 z0,.int .i64 z1,.int .i64 z2] 118)):=hb.alloc (by omega) _
    go_wp2_with fail
    refine(C _ N).mono ?_;rintro e w5 ⟨rfl,_,hO⟩;have W:=z3g T hO (Nat.le_refl _) (by simp;omega);replace B0:Blk w5 _ _ _:=(W.block _ am).trans B0;obtain⟨p0,p1,p2⟩:=B0.cel3;obtain⟨f0,f1,f2⟩:=B0.frz3;have az:=B0.lt;clear C hO T N hS hb B0
    go_wp2
    refine bodyPost_ret (v:=.agg #[.int .i64 r,.int .i64 0,.slice none 0 0]) (by simp[results,Tryz.results180,go_sem,p0,p1,p2]) rfl ?_;rw[HE.out.1,HE.out.2.1,HE.out.2.2];refine⟨_,_,rfl,World.ownsRow_nil _ _ _ _,?_⟩;repeat' (refine Below.setCell ?_ (by dsimp only;omega) _)
    exact ah.trans (W.mono Z)
  ·have aj:k=zs.length:=by omega
   have HC:Hid (z0t xs zs=(0,y)):=by
    have:=HG.out.2;rw[aj,List.drop_length]at this;exact this.symm
   have HE:Hid (exC xs i s q zs=0∧exR xs i s q zs=y∧exV xs i s q zs=valI y (z4R zs)):=by
    have:=HK.out (by rw[HC.out]);rw[HC.out]at this;exact this
   have hg:=HG.out.1;subst aj;obtain⟨n,hn⟩:∃n,zs.length=n+1:=⟨zs.length-1,by omega⟩
   obtain⟨b,A,rfl,J⟩:=Y n (by omega);obtain⟨b',ap,e,_,E,D,I⟩:=ht.at n (by omega);simp only[Option.some.injEq,Addr.mk.injEq,and_true]at e;obtain⟨rfl,rfl⟩:=e;replace D:wr.cell? ⟨b,A+n*3+1,none⟩=_:=(hb.cell (p:=⟨b,A+n*3+1,none⟩) J).trans D;have ai:=(z1D (HA.out (zs.getD n z0e) (by simp[List.getD,show n<zs.length by omega]))).2.1;have HL:Hid (z4R zs=(zs.getD n z0e).key):=by
    show _=_;unfold z4R;rw[hn,Nat.add_sub_cancel]
   generalize (zs.getD n z0e).key=kk at D ai HL;have HV:Hid (exV xs i s q zs=valI y kk):=by
    have:=HE.out.2.2;rw[HL.out]at this;exact this
   generalize ao:valI y kk=vv at HV;have aq:Hid (valI y kk=vv):=ao;replace B0:Blk wr _ _ _:=(hb.block _ am).trans B0;replace Bt:Blk wr _ _ _:=(hb.block _ ax).trans Bt;have q3:=Bt.cell 3 _ rfl;clear E I HC HG HL ao
   go_wp2_with fail
   clear q3 D Bt;refine z0b (S:=fun w'=>∃u:KeepP (fun u=>ShelfAt u sb y),w'=u.val) (by kernel_rfl) ?_;have L:Nonempty (KeepP (fun u=>ShelfAt u sb y)):=⟨⟨wr,hS⟩⟩
   have U:ShelfAt wr.drew sb y:=hS;refine sgr [(0,2),(3,1)] 4 (by kernel_rfl) ⟨⟨wr.drew,U⟩,rfl⟩ ?_;simp only[pkE];repeat go_big_quiet_step (fail)
   refine wpQuiet_nil ?_;refine qta 2 (some 52) (.int .i64 vv) 3 (by kernel_rfl) ?hrun ⟨⟨wr.drew,U⟩,rfl⟩ ?_
   case hrun=>
    intro u hu;obtain⟨x,rfl⟩:=hu;obtain⟨c,hr,ab,_⟩:=World.ownsMap.lookup_int x.isP z2w Tryz.underlying274 Tryz.underlying2 (z3x _) (z5E (k:=kk) (by omega));rw[z6m,aq.out]at ab;simp only[DataW.lit.injEq,Lit.int.injEq,true_and]at ab;subst ab;show some (Sem.run Tryz.prog (do let v←Instr.lookup 274 (.map (some sb)) (.int .i64 kk) false;pure (Next.value v)) x.val)=_;rw[Sem.run_bind,hr];rfl
   simp only[Act.put,pgE,pjE];refine cla 4 (some 54) 202 #[.map (some sb)] 2 (by kernel_rfl) ?_;refine(q03 sb y _ U ae hg).mono ?_;rintro e w6 ⟨ra,rc,rfl,ro,O⟩;have aa:=U.below O;refine⟨_,rfl,⟨⟨w6,aa⟩,rfl⟩,?_⟩;simp only[Act.put,pgE,pjE];refine sgr [(5,1)] 1 (by kernel_rfl) ⟨⟨w6,aa⟩,rfl⟩ ?_;simp only[pkE];repeat go_big_quiet_step (fail)
   refine wpQuiet_nil ?_;refine ona 6 0 rfl (by kernel_rfl) ?_;have aw:wr.drew.heap.size=wr.heap.size:=rfl;rw[aw]at ro O;have ad:Below wr.heap.size wr wr.drew:=(Below.refl _ _).drew;replace B0:=B0.below (ad.trans O);have au:Below w.heap.size w w6:=(ah.trans (hb.mono Z)).trans ((ad.trans O).mono (by omega));obtain⟨p0,p1,p2⟩:=B0.cel3;obtain⟨f0,f1,f2⟩:=B0.frz3;have aA:=B0.lt;clear B0 O ad L
   go_wp2
   refine ThenGo.to ⟨⟨⟨_,World.ownsMap.setCell (World.ownsMap.setCell (World.ownsMap.setCell aa (by dsimp only;omega) _) (by dsimp only;omega) _) (by dsimp only;omega) _⟩,rfl⟩,?_⟩;refine z0f (by kernel_rfl) ?_
   go_wp2
   refine bodyPost_ret (v:=.agg #[.int .i64 0,.int .i64 vv,.slice ra y.length rc]) (by simp[results,Tryz.results180,go_sem,p0,p1,p2]) rfl ?_;rw[HE.out.1,HE.out.2.1,HV.out];refine⟨_,_,rfl,?_,?_⟩
   ·refine z0p (base:=wr.heap.size) ?_ (by omega);repeat' (refine ownsRow_setCell_below ?_ (by dsimp only;omega) _)
    exact ro
   ·repeat' (refine Below.setCell ?_ (by dsimp only;omega) _)
    exact au
theorem z8D{xs:List ItemD}(g:Good xs)(hl:xs.length≤8)(k v:Int)(hv:inW v (-20000) 20000=true):
  (8<(setI xs ⟨k,v⟩).length∧layC xs k v=7)∨(¬8<(setI xs ⟨k,v⟩).length∧layC xs k v=0):=by
 rw[z4M g];dsimp only;rcases z7k xs k v with⟨h1,_⟩|⟨_,h2,e⟩|⟨_,h2,h3,e⟩|⟨_,h2,h3,e⟩
 ·rw[hv]at h1;simp at h1
 ·right;rw[h2];exact⟨by simp;omega,e⟩
 ·left;rw[h2];exact⟨by simp;omega,e⟩
 ·right;rw[h2];exact⟨by simp;omega,e⟩
def ItB(w:World)(a:Option Addr):Prop:=∀x off,a=some ⟨x,off,none⟩→∃cs,w.heap[x]?=some (.cells cs 187 (0,0))
theorem z6o{w:World}{base n c:Nat}{a:Option Addr}{xs:List Value}(h:w.ownsRow base 187 2 (.slice a n c) n xs):ItB w a:=by
 intro x off e;subst e;rcases h.2 with⟨hv,_⟩|⟨g,cap,cur,hv,_,hh,_⟩
 ·simp at hv
 ·simp only[Value.slice.injEq,Option.some.injEq,Addr.mk.injEq,and_true]at hv;obtain⟨⟨rfl,rfl⟩,_⟩:=hv;exact⟨_,hh⟩
def z1k(w:World)(a:Option Addr)(xs:List ItemD)(z:ActD)(e:Ending)(w':World):Prop:=
 ∃b n c,e=.returned (.tuple #[.slice b n c,.int .i64 (actC xs z)])∧(actC xs z=0→n=(actN xs z).length∧ItemRow w' b (actN xs z)∧z7l b n c∧(b=a∨ItB w' b))∧Below w.heap.size w w'
theorem z7m(a:Option Addr)(cap:Nat)(xs:List ItemD)(pb po:Nat)(k y v:Int)(w:World)(h:ItemRow w a xs)(hN:z7l a xs.length cap)(hl:xs.length≤8)(g:Good xs)(ha:actF ⟨k,y,v⟩=0)
  (p0:w.cell? ⟨pb,po,none⟩=some (.int .i64 k)) (p1:w.cell? ⟨pb,po+1,none⟩=some (.int .i64 y)) (p2:w.cell? ⟨pb,po+2,none⟩=some (.int .i64 v)):
  Calls Tryz.prog 166 #[.slice a xs.length cap,.pointer (some ⟨pb,po,none⟩)] w (z1k w a xs ⟨k,y,v⟩):=by
 obtain⟨hk,hy,hv⟩:=z1D ha;dsimp only at hk hy hv;have M:=g.valI y;have C:=fun w h=>z6n a cap xs y w h (by omega)
 have z:=fun w h=>z1Q a cap xs y w h (by omega)
 have d:=fun x1 w h=>q07 a cap xs y x1 w h (by omega)
 have x:=fun w h=>z9E a cap xs y w h (by omega)
 have A:=fun v w=>z2K v (-20000) 20000 w
 have Z:∀x1,setR ⟨y,x1⟩ false xs=setI xs ⟨y,x1⟩:=fun x1=>z5D ⟨y,x1⟩ g.rise
 simp only[Z]at d;rcases(show k=1∨k=2∨k=3∨k=4 by omega)with rfl|rfl|rfl|rfl
 ·have e1:actC xs ⟨1,y,v⟩=layC xs y v:=by simp[actC]
  have e2:actN xs ⟨1,y,v⟩=setI xs ⟨y,v⟩:=by simp[actN]
  unfold z1k;rw[e1,e2];clear e1 e2;have D:inW v (-20000) 20000=true:=by simp[inW];omega
  replace d:=d v;go_enter Tryz.func166,Tryz.ntmps166
  go_wp2_with fail
  refine(C _ h).mono ?_;rintro e w' ⟨r,rfl,hr,hw⟩;replace hw:=hw.symm;subst hw;clear hr;rcases z8D g hl y v D with⟨h8,e⟩|⟨h8,e⟩
  ·have E:Hid (layC xs y v=7):=e;clear e C z x;generalize setI xs ⟨y,v⟩=N at d h8
   go_wp2_with fail
   refine(d _ h).mono ?_;rintro e w' ⟨b,c,rfl,ho,hb⟩;clear d
   go_wp2
   refine bodyPost_ret (v:=.tuple #[.slice none 0 0,.int .i64 7]) (by simp[results,Tryz.results166,go_sem]) rfl ?_;rw[E.out];exact⟨_,_,_,rfl,fun h=>by simp at h,hb⟩
  ·have E:Hid (layC xs y v=0):=e;clear e C z x;generalize I:setI xs ⟨y,v⟩=N at d h8;have HN:Hid (setI xs ⟨y,v⟩=N):=I;clear I
   go_wp2_with fail
   refine(d _ h).mono ?_;rintro e w' ⟨b,c,rfl,ho,hb⟩;have J:ItemRow w' b N:=Lies.own ho;have O:z7l b N.length c∧(b=a∨ItB w' b):=⟨z2o ho,Or.inr (z6o ho)⟩
   clear d ho
   go_wp2
   refine bodyPost_ret (v:=.tuple #[.slice b N.length c,.int .i64 0]) (by simp[results,Tryz.results166,go_sem]) rfl ?_;rw[E.out,HN.out];exact⟨_,_,_,rfl,fun _=>⟨rfl,J,O⟩,hb⟩
 ·have e1:actC xs ⟨2,y,v⟩=layC xs y (valI xs y+v):=by simp[actC]
  have e2:actN xs ⟨2,y,v⟩=setI xs ⟨y,(valI xs y+v)⟩:=by simp[actN]
  unfold z1k;rw[e1,e2];clear e1 e2;replace d:=d (valI xs y+v);go_enter Tryz.func166,Tryz.ntmps166
  go_wp2_with fail
  refine(C _ h).mono ?_;rintro e w' ⟨r,rfl,hr,hw⟩;replace hw:=hw.symm;subst hw;clear hr C;replace A:=A (valI xs y+v)
  cases D:inW (valI xs y+v) (-20000) 20000
  ·have E:Hid (layC xs y (valI xs y+v)=3):=if_pos D;rw[D]at A;clear d x;generalize W:valI xs y=cv at z M A;have HC:Hid (valI xs y=cv):=W;clear W D;have e3:Hid (v+cv=cv+v):=Int.add_comm v cv
   go_wp2_with fail
   refine(z _ h).mono ?_;rintro e w' ⟨rfl,hw⟩;replace hw:=hw.symm;subst hw;rw[Int.add_comm cv v]at A
   go_wp2_with fail
   refine(A _).mono ?_;rintro e w' ⟨rfl,hw⟩;replace hw:=hw.symm;subst hw
   go_wp2
   refine bodyPost_ret (v:=.tuple #[.slice none 0 0,.int .i64 3]) (by simp[results,Tryz.results166,go_sem]) rfl ?_;rw[E.out];exact⟨_,_,_,rfl,fun h=>by simp at h,Below.refl _ _⟩
  ·rw[D]at A;rcases z8D g hl y (valI xs y+v) D with⟨h8,e⟩|⟨h8,e⟩
   ·have E:Hid (layC xs y (valI xs y+v)=7):=e;clear e x D;generalize setI xs ⟨y,valI xs y+v⟩=N at d h8;have EE:Hid (layC xs y (valI xs y+v)=7):=E;clear E;generalize V:valI xs y=cv at z M A d;clear V;rw[Int.add_comm cv v]at A d
    go_wp2_with fail
    refine(z _ h).mono ?_;rintro e w' ⟨rfl,hw⟩;replace hw:=hw.symm;subst hw
    go_wp2_with fail
    refine(A _).mono ?_;rintro e w' ⟨rfl,hw⟩;replace hw:=hw.symm;subst hw
    go_wp2_with fail
    refine(d _ h).mono ?_;rintro e w' ⟨b,c,rfl,ho,hb⟩;clear d
    go_wp2
    refine bodyPost_ret (v:=.tuple #[.slice none 0 0,.int .i64 7]) (by simp[results,Tryz.results166,go_sem]) rfl ?_;rw[EE.out];exact⟨_,_,_,rfl,fun h=>by simp at h,hb⟩
   ·have E:Hid (layC xs y (valI xs y+v)=0):=e;clear e x D;generalize I:setI xs ⟨y,valI xs y+v⟩=N at d h8;have HN:Hid (setI xs ⟨y,valI xs y+v⟩=N):=I;clear I;generalize V:valI xs y=cv at z M A d;clear V;rw[Int.add_comm cv v]at A d
    go_wp2_with fail
    refine(z _ h).mono ?_;rintro e w' ⟨rfl,hw⟩;replace hw:=hw.symm;subst hw
    go_wp2_with fail
    refine(A _).mono ?_;rintro e w' ⟨rfl,hw⟩;replace hw:=hw.symm;subst hw
    go_wp2_with fail
    refine(d _ h).mono ?_;rintro e w' ⟨b,c,rfl,ho,hb⟩;have J:ItemRow w' b N:=Lies.own ho;have O:z7l b N.length c∧(b=a∨ItB w' b):=⟨z2o ho,Or.inr (z6o ho)⟩
    clear d ho
    go_wp2
    refine bodyPost_ret (v:=.tuple #[.slice b N.length c,.int .i64 0]) (by simp[results,Tryz.results166,go_sem]) rfl ?_;rw[E.out,HN.out];exact⟨_,_,_,rfl,fun _=>⟨rfl,J,O⟩,hb⟩
 ·go_enter Tryz.func166,Tryz.ntmps166
  go_wp2_with fail
  refine(C _ h).mono ?_;rintro e w' ⟨r,rfl,hr,hw⟩;replace hw:=hw.symm;subst hw;rcases hr with⟨rfl,hh,_⟩|⟨j,rfl,hj,hh,_⟩
  ·have E:Hid (actC xs ⟨3,y,v⟩=4):=by simp[Hid,actC,hh]
   clear C z d x
   go_wp2
   refine bodyPost_ret (v:=.tuple #[.slice none 0 0,.int .i64 4]) (by simp[results,Tryz.results166,go_sem]) rfl ?_;unfold z1k;rw[E.out];exact⟨_,_,_,rfl,fun h=>by simp at h,Below.refl _ _⟩
  ·have E:Hid (actC xs ⟨3,y,v⟩=0):=by simp[Hid,actC,hh]
   have E2:Hid (actN xs ⟨3,y,v⟩=delI xs y):=by simp[Hid,actN]
   clear C z d;generalize I:delI xs y=N at x;have HN:Hid (delI xs y=N):=I;clear I
   go_wp2_with fail
   refine(x _ h).mono ?_;rintro e w' ⟨b,c,rfl,ho,hb⟩;have J:ItemRow w' b N:=Lies.own ho;have O:z7l b N.length c∧(b=a∨ItB w' b):=⟨z2o ho,Or.inr (z6o ho)⟩
   clear x ho
   go_wp2
   refine bodyPost_ret (v:=.tuple #[.slice b N.length c,.int .i64 0]) (by simp[results,Tryz.results166,go_sem]) rfl ?_;unfold z1k;rw[E.out,E2.out,HN.out];exact⟨_,_,_,rfl,fun _=>⟨rfl,J,O⟩,hb⟩
 ·go_enter Tryz.func166,Tryz.ntmps166
  go_wp2_with fail
  refine(C _ h).mono ?_;rintro e w' ⟨r,rfl,hr,hw⟩;replace hw:=hw.symm;subst hw;rcases hr with⟨rfl,hh,_⟩|⟨j,rfl,hj,hh,X⟩
  ·have E:Hid (actC xs ⟨4,y,v⟩=9):=by simp[Hid,actC,hh]
   clear C z d x;have hW:Below w.heap.size w w.drew:=(Below.refl _ _).drew;have T:Nonempty (Lat w):=⟨⟨w,Below.refl _ _⟩⟩
   go_wp2_with fail
   refine z0b (S:=fun w'=>∃u:Lat w,w'=u.val) (by kernel_rfl) ?_;refine sgr [(0,14)] 0 (by kernel_rfl) ⟨⟨_,hW⟩,rfl⟩ ?_;simp only[pkE];repeat go_big_quiet_step (fail)
   refine wpQuiet_nil ?_;refine z0f (by kernel_rfl) ?_;clear T
   go_wp2
   refine bodyPost_ret (v:=.tuple #[.slice none 0 0,.int .i64 9]) (by simp[results,Tryz.results166,go_sem]) rfl ?_;unfold z1k;rw[E.out];exact⟨_,_,_,rfl,fun h=>by simp at h,hW⟩
  ·obtain⟨b,aa,rfl,ab,Y,L⟩:=h.at j hj;have E2:Hid (actN xs ⟨4,y,v⟩=xs):=by simp[Hid,actN]
   rw[←X]at L;have ad:decide ((j:Int)<0)=false:=decide_eq_false (by omega);clear C z d x Y X;by_cases hc:valI xs y=v
   ·have E:Hid (actC xs ⟨4,y,v⟩=0):=by simp[Hid,actC,hh,hc]
    have U:(v !=v)=false:=by simp
    rw[hc]at L;clear hc M;have d0:=z0a L;have d1:=z0a p2;have hW:Below w.heap.size w w.drew:=(Below.refl _ _).drew;have T:Nonempty (Lat w):=⟨⟨w,Below.refl _ _⟩⟩
    go_wp2_with fail
    refine z0b (S:=fun w'=>∃u:Lat w,w'=u.val) (by kernel_rfl) ?_;refine sgr [(0,14)] 0 (by kernel_rfl) ⟨⟨_,hW⟩,rfl⟩ ?_;simp only[pkE];repeat go_big_quiet_step (fail)
    refine wpQuiet_nil ?_;refine z0f (by kernel_rfl) ?_;clear T d0 d1
    go_wp2
    refine bodyPost_ret (v:=.tuple #[.slice (some ⟨b,aa,none⟩) xs.length cap,.int .i64 0]) (by simp[results,Tryz.results166,go_sem]) rfl ?_;unfold z1k;rw[E.out,E2.out];exact⟨_,_,_,rfl,fun _=>⟨rfl,h.below hW,hN,Or.inl rfl⟩,hW⟩
   ·have E:Hid (actC xs ⟨4,y,v⟩=9):=by simp[Hid,actC,hh,hc]
    have U:(valI xs y !=v)=true:=by simpa using hc
    clear hc;generalize valI xs y=cv at L U M;have d0:=z0a L;have d1:=z0a p2;have hW:Below w.heap.size w w.drew:=(Below.refl _ _).drew;have T:Nonempty (Lat w):=⟨⟨w,Below.refl _ _⟩⟩
    go_wp2_with fail
    refine z0b (S:=fun w'=>∃u:Lat w,w'=u.val) (by kernel_rfl) ?_;refine sgr [(0,14)] 0 (by kernel_rfl) ⟨⟨_,hW⟩,rfl⟩ ?_;simp only[pkE];repeat go_big_quiet_step (fail)
    refine wpQuiet_nil ?_;refine z0f (by kernel_rfl) ?_;clear T d0 d1
    go_wp2
    refine bodyPost_ret (v:=.tuple #[.slice none 0 0,.int .i64 9]) (by simp[results,Tryz.results166,go_sem]) rfl ?_;unfold z1k;rw[E.out];exact⟨_,_,_,rfl,fun h=>by simp at h,hW⟩
end
end Go.Proofs.YtljbililjlafcaaGreatDoor

import Derived.Test.YtjjoahhnkpjolaaGreatDoorONAZ
import Derived.Laws.AppendOwnNone
import Derived.Lib.AppendZeros
set_option linter.unusedVariables false
set_option linter.unusedSimpArgs false
set_option maxRecDepth 100000
set_option maxHeartbeats 4000000
namespace Go.Proofs.YtjjoahhnkpjolaaGreatDoor
open Go.RowKit Go.BigFrame
open Nat renaming le_refl->l
open IntKind renaming i64->G
open Value renaming int->F,slice->R
open Go.Proofs.Tryz renaming prog->H
open Go.Proofs.Tryz
section
open Go.Maps
theorem q0y{xs:List ItemD}(g:Good xs)(hl:xs.length≤8)(k v:Int)(hv:inW v (-20000) 20000=true):
  (8<(setI xs ⟨k,v⟩).length∧layC xs k v=7)∨(¬8<(setI xs ⟨k,v⟩).length∧layC xs k v=0):=by
 rw[z5X g];dsimp only;rcases z8R xs k v with⟨h1,_⟩|⟨_,h2,e⟩|⟨_,h2,h3,e⟩|⟨_,h2,h3,e⟩
 ·rw[hv]at h1;simp at h1
 ·right;rw[h2];exact⟨by simp;omega,e⟩
 ·left;rw[h2];exact⟨by simp;omega,e⟩
 ·right;rw[h2];exact⟨by simp;omega,e⟩
def ItB(w:World)(a:Option Addr):Prop:=∀x off,a=some ⟨x,off,none⟩→∃cs,w.heap[x]?=some (.cells cs 173 (0,0))
theorem z7L{w:World}{base n c:Nat}{a:Option Addr}{xs:List Value}(h:w.ownsRow base 173 2 (R a n c) n xs):ItB w a:=by
 intro x off e;subst e;rcases h.2 with⟨hv,_⟩|⟨g,cap,cur,hv,_,hh,_⟩
 ·simp at hv
 ·simp only[Value.slice.injEq,Option.some.injEq,Addr.mk.injEq,and_true]at hv;obtain⟨⟨rfl,rfl⟩,_⟩:=hv;exact⟨_,hh⟩
def z1O(w:World)(a:Option Addr)(xs:List ItemD)(z:ActD)(e:Ending)(w':World):Prop:=
 ∃b n c,e=.returned (.tuple #[R b n c,F G (actC xs z)])∧(actC xs z=0→n=(actN xs z).length∧ItemRow w' b (actN xs z)∧z8S b n c∧(b=a∨ItB w' b))∧Below w.heap.size w w'
theorem z8T(a:Option Addr)(cap:Nat)(xs:List ItemD)(pb po:Nat)(k y v:Int)(w:World)(h:ItemRow w a xs)(hN:z8S a xs.length cap)(hl:xs.length≤8)(g:Good xs)(ha:actF ⟨k,y,v⟩=0)
  (p0:w.cell? ⟨pb,po,none⟩=some (F G k)) (p1:w.cell? ⟨pb,po+1,none⟩=some (F G y)) (p2:w.cell? ⟨pb,po+2,none⟩=some (F G v)):
  Calls H 225 #[R a xs.length cap,.pointer (some ⟨pb,po,none⟩)] w (z1O w a xs ⟨k,y,v⟩):=by
 obtain⟨hk,hy,hv⟩:=z2f ha;dsimp only at hk hy hv;have M:=g.valI y;have C:=fun w h=>z7K a cap xs y w h (by omega)
 have z:=fun w h=>z2s a cap xs y w h (by omega)
 have d:=fun x1 w h=>q3a a cap xs y x1 w h (by omega)
 have x:=fun w h=>q1A a cap xs y w h (by omega)
 have A:=fun v w=>z3J v (-20000) 20000 w
 have Z:∀x1,setR ⟨y,x1⟩ false xs=setI xs ⟨y,x1⟩:=fun x1=>z6U ⟨y,x1⟩ g.rise
 simp only[Z]at d;rcases(show k=1∨k=2∨k=3∨k=4 by omega)with rfl|rfl|rfl|rfl
 ·have e1:actC xs ⟨1,y,v⟩=layC xs y v:=by simp[actC]
  have e2:actN xs ⟨1,y,v⟩=setI xs ⟨y,v⟩:=by simp[actN]
  unfold z1O;rw[e1,e2];clear e1 e2;have D:inW v (-20000) 20000=true:=by simp[inW];omega
  replace d:=d v;go_enter func225,ntmps225
  go_wp2_with fail
  refine(C _ h).mono ?_;rintro e w' ⟨r,rfl,hr,hw⟩;replace hw:=hw.symm;subst hw;clear hr;rcases q0y g hl y v D with⟨h8,e⟩|⟨h8,e⟩
  ·have E:Hid (layC xs y v=7):=e;clear e C z x;generalize setI xs ⟨y,v⟩=N at d h8
   go_wp2_with fail
   refine(d _ h).mono ?_;rintro e w' ⟨b,c,rfl,ho,hb⟩;clear d
   go_wp2
   refine bodyPost_ret (v:=.tuple #[R none 0 0,F G 7]) (by simp[results,results225,go_sem]) rfl ?_;rw[E.out];exact⟨_,_,_,rfl,fun h=>by simp at h,hb⟩
  ·have E:Hid (layC xs y v=0):=e;clear e C z x;generalize I:setI xs ⟨y,v⟩=N at d h8;have HN:Hid (setI xs ⟨y,v⟩=N):=I;clear I
   go_wp2_with fail
   refine(d _ h).mono ?_;rintro e w' ⟨b,c,rfl,ho,hb⟩;have J:ItemRow w' b N:=Lies.own ho;have O:z8S b N.length c∧(b=a∨ItB w' b):=⟨z3c ho,Or.inr (z7L ho)⟩
   clear d ho
   go_wp2
   refine bodyPost_ret (v:=.tuple #[R b N.length c,F G 0]) (by simp[results,results225,go_sem]) rfl ?_;rw[E.out,HN.out];exact⟨_,_,_,rfl,fun _=>⟨rfl,J,O⟩,hb⟩
 ·have e1:actC xs ⟨2,y,v⟩=layC xs y (valI xs y+v):=by simp[actC]
  have e2:actN xs ⟨2,y,v⟩=setI xs ⟨y,(valI xs y+v)⟩:=by simp[actN]
  unfold z1O;rw[e1,e2];clear e1 e2;replace d:=d (valI xs y+v);go_enter func225,ntmps225
  go_wp2_with fail
  refine(C _ h).mono ?_;rintro e w' ⟨r,rfl,hr,hw⟩;replace hw:=hw.symm;subst hw;clear hr C;replace A:=A (valI xs y+v)
  cases D:inW (valI xs y+v) (-20000) 20000
  ·have E:Hid (layC xs y (valI xs y+v)=3):=if_pos D;rw[D]at A;clear d x;generalize W:valI xs y=cv at z M A;have HC:Hid (valI xs y=cv):=W;clear W D;have e3:Hid (v+cv=cv+v):=Int.add_comm v cv
   go_wp2_with fail
   refine(z _ h).mono ?_;rintro e w' ⟨rfl,hw⟩;replace hw:=hw.symm;subst hw;rw[Int.add_comm cv v]at A
   go_wp2_with fail
   refine(A _).mono ?_;rintro e w' ⟨rfl,hw⟩;replace hw:=hw.symm;subst hw
   go_wp2
   refine bodyPost_ret (v:=.tuple #[R none 0 0,F G 3]) (by simp[results,results225,go_sem]) rfl ?_;rw[E.out];exact⟨_,_,_,rfl,fun h=>by simp at h,Below.refl _ _⟩
  ·rw[D]at A;rcases q0y g hl y (valI xs y+v) D with⟨h8,e⟩|⟨h8,e⟩
   ·have E:Hid (layC xs y (valI xs y+v)=7):=e;clear e x D;generalize setI xs ⟨y,valI xs y+v⟩=N at d h8;have EE:Hid (layC xs y (valI xs y+v)=7):=E;clear E;generalize V:valI xs y=cv at z M A d;clear V;rw[Int.add_comm cv v]at A d
    go_wp2_with fail
    refine(z _ h).mono ?_;rintro e w' ⟨rfl,hw⟩;replace hw:=hw.symm;subst hw
    go_wp2_with fail
    refine(A _).mono ?_;rintro e w' ⟨rfl,hw⟩;replace hw:=hw.symm;subst hw
    go_wp2_with fail
    refine(d _ h).mono ?_;rintro e w' ⟨b,c,rfl,ho,hb⟩;clear d
    go_wp2
    refine bodyPost_ret (v:=.tuple #[R none 0 0,F G 7]) (by simp[results,results225,go_sem]) rfl ?_;rw[EE.out];exact⟨_,_,_,rfl,fun h=>by simp at h,hb⟩
   ·have E:Hid (layC xs y (valI xs y+v)=0):=e;clear e x D;generalize I:setI xs ⟨y,valI xs y+v⟩=N at d h8;have HN:Hid (setI xs ⟨y,valI xs y+v⟩=N):=I;clear I;generalize V:valI xs y=cv at z M A d;clear V;rw[Int.add_comm cv v]at A d
    go_wp2_with fail
    refine(z _ h).mono ?_;rintro e w' ⟨rfl,hw⟩;replace hw:=hw.symm;subst hw
    go_wp2_with fail
    refine(A _).mono ?_;rintro e w' ⟨rfl,hw⟩;replace hw:=hw.symm;subst hw
    go_wp2_with fail
    refine(d _ h).mono ?_;rintro e w' ⟨b,c,rfl,ho,hb⟩;have J:ItemRow w' b N:=Lies.own ho;have O:z8S b N.length c∧(b=a∨ItB w' b):=⟨z3c ho,Or.inr (z7L ho)⟩
    clear d ho
    go_wp2
    refine bodyPost_ret (v:=.tuple #[R b N.length c,F G 0]) (by simp[results,results225,go_sem]) rfl ?_;rw[E.out,HN.out];exact⟨_,_,_,rfl,fun _=>⟨rfl,J,O⟩,hb⟩
 ·go_enter func225,ntmps225
  go_wp2_with fail
  refine(C _ h).mono ?_;rintro e w' ⟨r,rfl,hr,hw⟩;replace hw:=hw.symm;subst hw;rcases hr with⟨rfl,hh,_⟩|⟨j,rfl,hj,hh,_⟩
  ·have E:Hid (actC xs ⟨3,y,v⟩=4):=by simp[Hid,actC,hh]
   clear C z d x
   go_wp2
   refine bodyPost_ret (v:=.tuple #[R none 0 0,F G 4]) (by simp[results,results225,go_sem]) rfl ?_;unfold z1O;rw[E.out];exact⟨_,_,_,rfl,fun h=>by simp at h,Below.refl _ _⟩
  ·have E:Hid (actC xs ⟨3,y,v⟩=0):=by simp[Hid,actC,hh]
   have E2:Hid (actN xs ⟨3,y,v⟩=delI xs y):=by simp[Hid,actN]
   clear C z d;generalize I:delI xs y=N at x;have HN:Hid (delI xs y=N):=I;clear I
   go_wp2_with fail
   refine(x _ h).mono ?_;rintro e w' ⟨b,c,rfl,ho,hb⟩;have J:ItemRow w' b N:=Lies.own ho;have O:z8S b N.length c∧(b=a∨ItB w' b):=⟨z3c ho,Or.inr (z7L ho)⟩
   clear x ho
   go_wp2
   refine bodyPost_ret (v:=.tuple #[R b N.length c,F G 0]) (by simp[results,results225,go_sem]) rfl ?_;unfold z1O;rw[E.out,E2.out,HN.out];exact⟨_,_,_,rfl,fun _=>⟨rfl,J,O⟩,hb⟩
 ·go_enter func225,ntmps225
  go_wp2_with fail
  refine(C _ h).mono ?_;rintro e w' ⟨r,rfl,hr,hw⟩;replace hw:=hw.symm;subst hw;rcases hr with⟨rfl,hh,_⟩|⟨j,rfl,hj,hh,X⟩
  ·have E:Hid (actC xs ⟨4,y,v⟩=9):=by simp[Hid,actC,hh]
   clear C z d x;have hW:Below w.heap.size w w.drew:=(Below.refl _ _).drew;have T:Nonempty (Lat w):=⟨⟨w,Below.refl _ _⟩⟩
   go_wp2_with fail
   refine z0d (S:=fun w'=>∃u:Lat w,w'=u.val) (by kernel_rfl) ?_;refine sgr [(0,14)] 0 (by kernel_rfl) ⟨⟨_,hW⟩,rfl⟩ ?_;simp only[pkE];repeat go_big_quiet_step (fail)
   refine wpQuiet_nil ?_;refine z0h (by kernel_rfl) ?_;clear T
   go_wp2
   refine bodyPost_ret (v:=.tuple #[R none 0 0,F G 9]) (by simp[results,results225,go_sem]) rfl ?_;unfold z1O;rw[E.out];exact⟨_,_,_,rfl,fun h=>by simp at h,hW⟩
  ·obtain⟨b,aa,rfl,ab,Y,L⟩:=h.at j hj;have E2:Hid (actN xs ⟨4,y,v⟩=xs):=by simp[Hid,actN]
   rw[←X]at L;have ad:decide ((j:Int)<0)=false:=decide_eq_false (by omega);clear C z d x Y X;by_cases hc:valI xs y=v
   ·have E:Hid (actC xs ⟨4,y,v⟩=0):=by simp[Hid,actC,hh,hc]
    have U:(v !=v)=false:=by simp
    rw[hc]at L;clear hc M;have d0:=z0a L;have d1:=z0a p2;have hW:Below w.heap.size w w.drew:=(Below.refl _ _).drew;have T:Nonempty (Lat w):=⟨⟨w,Below.refl _ _⟩⟩
    go_wp2_with fail
    refine z0d (S:=fun w'=>∃u:Lat w,w'=u.val) (by kernel_rfl) ?_;refine sgr [(0,14)] 0 (by kernel_rfl) ⟨⟨_,hW⟩,rfl⟩ ?_;simp only[pkE];repeat go_big_quiet_step (fail)
    refine wpQuiet_nil ?_;refine z0h (by kernel_rfl) ?_;clear T d0 d1
    go_wp2
    refine bodyPost_ret (v:=.tuple #[R (some ⟨b,aa,none⟩) xs.length cap,F G 0]) (by simp[results,results225,go_sem]) rfl ?_;unfold z1O;rw[E.out,E2.out];exact⟨_,_,_,rfl,fun _=>⟨rfl,h.below hW,hN,Or.inl rfl⟩,hW⟩
   ·have E:Hid (actC xs ⟨4,y,v⟩=9):=by simp[Hid,actC,hh,hc]
    have U:(valI xs y !=v)=true:=by simpa using hc
    clear hc;generalize valI xs y=cv at L U M;have d0:=z0a L;have d1:=z0a p2;have hW:Below w.heap.size w w.drew:=(Below.refl _ _).drew;have T:Nonempty (Lat w):=⟨⟨w,Below.refl _ _⟩⟩
    go_wp2_with fail
    refine z0d (S:=fun w'=>∃u:Lat w,w'=u.val) (by kernel_rfl) ?_;refine sgr [(0,14)] 0 (by kernel_rfl) ⟨⟨_,hW⟩,rfl⟩ ?_;simp only[pkE];repeat go_big_quiet_step (fail)
    refine wpQuiet_nil ?_;refine z0h (by kernel_rfl) ?_;clear T d0 d1
    go_wp2
    refine bodyPost_ret (v:=.tuple #[R none 0 0,F G 9]) (by simp[results,results225,go_sem]) rfl ?_;unfold z1O;rw[E.out];exact⟨_,_,_,rfl,fun h=>by simp at h,hW⟩
theorem z2t(zs:List ItemD):∀u∈z0g zs,u.oneCell'=true:=by
 intro u hu;simp only[z0g,List.mem_flatMap,ItemD.cells,List.mem_cons,List.not_mem_nil,or_false]at hu;obtain⟨z,_,rfl|rfl⟩:=hu<;>rfl
theorem z8U{w:World}{ad:Addr}{xs:List Value}(h:Lies w (some ad) xs):∀j u,xs[j]?=some u→w.cell? (ad.add j)=some u:=by
 intro j u hj;rcases h with rfl|⟨b',off',e,_,hc⟩
 ·simp at hj
 ·simp only[Option.some.injEq]at e;subst e;rw[Addr.add_lit];exact hc j u hj
section
variable {ops:Array Oper} {rest:List Oper} {o:Oper} {a:Act} {Q:Exit→Act→World→Prop}
theorem z0G(w:World)(A:o.guard=none)(s x:Operand)(ho:o.op=.call {callee:=.builtin .append,args:=#[s,x],argTypes:=#[53,53]})(base g:Nat)
  (hs:a.eval s=R (some ⟨g,0,none⟩) 0 0) (d:w.ownsRow base 173 2 (R (some ⟨g,0,none⟩) 0 0) 0 []) (sa:Option Addr) (zs:List ItemD) (sc:Nat) (hx:a.eval x=R sa zs.length sc) (hr:ItemRow w sa zs) (hN:z8S sa zs.length sc) (hl:zs.length≤1048576) (y:base≤w.heap.size)
  (h:∀a' c' w',w'.ownsRow base 173 2 (R a' zs.length c') zs.length (z0g zs)→Below base w w'→wpList H ops Q rest (a.put o.dst (R a' zs.length c')) w'):wpList H ops Q (o::rest) a w:=by
 obtain⟨i0,hi,C,D,E⟩:=info_parts z2j;rcases hN with⟨ad,rfl⟩|⟨rfl,hn,rfl⟩
 ·refine wpList_append_own w A s x 53 ho base 173 i0 (.agg #[F G 0,F G 0]) 2 16 Tryz.underlying53 hi C D E rfl (by decide) _ 0 [] hs d ad zs.length sc (z0g zs) hx (z1g zs) (z8U hr) (z2t zs) (by unfold maxLen;omega) (by omega) y ?_;intro v' w' c z _;simp only[Nat.zero_add,List.nil_append]at c;obtain⟨a',c',rfl⟩:=z0f c;exact h a' c' w' c ((Below.refl _ _).grown z y (fun k hk=>(d.lt k hk).1))
 ·have hz:zs=[]:=List.eq_nil_of_length_eq_zero hn;subst hz;refine wpList_append_own_none A s x 53 ho base 173 i0 2 Tryz.underlying53 hi _ 0 [] hs d hx ?_;exact h _ _ w d (Below.refl _ _)
end
theorem z6W{B:Nat}{w:World}{a:Addr}{v:Value}(h:w.cell? a=some v)(hlt:a.block<B):∀u:LatB B w,u.val.cell? a=some v:=fun u=>by
 rw[u.isBelow.cell hlt];exact h
def runR(xs:List ItemD)(zs:List ActD):List ItemD:=if(z0z xs zs).1=0 then(z0z xs zs).2 else []
def runV(xs:List ItemD)(zs:List ActD):Int:=if(z0z xs zs).1=0 then valI (z0z xs zs).2 (z52 zs)else 0
theorem q1B(a:Option Addr)(cap:Nat)(xs:List ItemD)(tb E:Nat)(i s q:Int)(ta:Option Addr)(tc:Nat)(zs:List ActD)(w:World)(h:ItemRow w a xs)(hN:z8S a xs.length cap)(hB:Box4 w tb E (F G i) (F G s) (F G q) (R ta zs.length tc))(ht:ActRow w ta zs)(h8:xs.length≤8)(g:Good xs)(h2:txnF i s q zs=0):
  Calls H 196 #[R a xs.length cap,.pointer (some ⟨tb,E,none⟩)] w fun e w'=>∃b c,e=.returned (.agg #[F G (z0z xs zs).1,F G (runV xs zs),.slice b (runR xs zs).length c])∧
   w'.ownsRow w.heap.size 173 2 (.slice b (runR xs zs).length c) (runR xs zs).length (z0g (runR xs zs))∧Below w.heap.size w w':=by
 obtain⟨⟨aP,aQ⟩,Z⟩:=z04 h2;have HA:Hid (∀a∈zs,actF a=0):=Z;clear h2 Z;have aH:Below w.heap.size w (w.alloc (.cells #[F G 0,F G 0,R none 0 0] 282)):=by go_grown
 have B0:=Blk.new w 282 #[F G 0,F G 0,R none 0 0];have ah:Below w.heap.size w ((w.alloc (.cells #[F G 0,F G 0,R none 0 0] 282)).alloc (.cells #[] 173)):=by go_grown
 have an:=B0.below (w':=(w.alloc (.cells #[F G 0,F G 0,R none 0 0] 282)).alloc (.cells #[] 173)) (by go_grown);have al:=World.ownsRow_lit (size:=2) (e:=173) (w.alloc (.cells #[F G 0,F G 0,R none 0 0] 282)) #[] 0 (l _) (by decide) rfl;rw[World.size_alloc]at al;have aJ:w.heap.size+1≤((w.alloc (.cells #[F G 0,F G 0,R none 0 0] 282)).alloc (.cells #[] 173)).heap.size:=by simp
 have ax:∀ (ops:Array Oper) (rest:List Oper) (o:Oper) (J:Act) (Q:Exit→Act→World→Prop) (ay:o.guard=none) (sx x:Operand) (ho:o.op=.call {callee:=.builtin .append,args:=#[sx,x],argTypes:=#[53,53]}) (hs:J.eval sx=R (some ⟨w.heap.size+1,0,none⟩) 0 0) (hx:J.eval x=R a xs.length cap)
   (hh:∀a' c' w',w'.ownsRow (w.heap.size+1) 173 2 (R a' xs.length c') xs.length (z0g xs)→Below (w.heap.size+1) ((w.alloc (.cells #[F G 0,F G 0,R none 0 0] 282)).alloc (.cells #[] 173)) w'→wpList H ops Q rest (J.put o.dst (R a' xs.length c')) w'),wpList H ops Q (o::rest) J ((w.alloc (.cells #[F G 0,F G 0,R none 0 0] 282)).alloc (.cells #[] 173)):=
  fun ops rest o J Q ay sx x ho hs hx hh=>z0G _ ay sx x ho (w.heap.size+1) (w.heap.size+1) hs al a xs cap hx (h.below ah) hN (by omega) (by simp) hh
 go_enter func196,ntmps196
 go_wp2_with (at_builtin;refine ax _ _ _ _ _ rfl _ _ rfl rfl rfl ?_)
 intro a1 c1 w2 y ai;have M:Below w.heap.size w w2:=ah.trans (ai.mono (by omega));replace B0:Blk w2 _ _ _:=(ai.block _ (by omega)).trans an;have aO:w.heap.size<w2.heap.size:=B0.lt;have ap:=z3c y;have au:ItemRow w2 a1 xs:=Lies.own y;obtain⟨b0,b1,b2,b3⟩:=hB;have aF:tb<w.heap.size:=World.block_lt_of_cell? w ⟨tb,E,none⟩ b0;have c3:w2.cell? ⟨tb,E+3,none⟩=_:=(M.cell (p:=⟨tb,E+3,none⟩) aF).trans b3;have aE:=ht.below M;have aC:∀k,k<zs.length→∃b I,ta=some ⟨b,I,none⟩∧b<w.heap.size:=fun k hk=>by
  obtain⟨b,I,e,X,_⟩:=ht.at k hk;exact⟨b,I,e,X⟩
 have aa:=M.size;clear ax al an ah aJ aH h hN y ai b0 b1 b2 b3 ht
 go_wp2
 go_loopw[5,6] (fun v j wr=>∃ (k:Nat) (d:List ItemD) (b:Option Addr) (c:Nat),k≤zs.length∧j=F G k∧v=R b d.length c∧ItemRow wr b d∧z8S b d.length c∧d.length≤8∧Hid (Good d∧z0z d (zs.drop k)=z0z xs zs)∧Below w2.heap.size w2 wr) (fun _ j _=>zs.length-(intOf j).toNat)
 case atStart=>exact⟨0,xs,a1,c1,Nat.zero_le _,rfl,rfl,au,ap,h8,⟨g,by simp⟩,Below.refl _ _⟩
 case round=>
  clear au ap;obtain⟨k,d,nb,nc,hk,rfl,rfl,hR,ad,aw,HG,hb⟩:=hrel;have ab:=hb.size;have d3:wr.cell? ⟨tb,E+3,none⟩=_:=(hb.cell (p:=⟨tb,E+3,none⟩) (by dsimp only;omega)).trans c3;by_cases ak:k<zs.length
  ·obtain⟨b,I,rfl,X,T,C,U⟩:=(aE.below hb).at k ak;have V:=HA.out (zs.getD k z0e) (by simp[List.getD,ak]);have A:=z8T nb nc d b (I+k*3) (zs.getD k z0e).kind (zs.getD k z0e).key (zs.getD k z0e).val wr hR ad aw HG.out.1 V T C U;change Calls _ _ _ _ (z1O wr nb d (zs.getD k z0e))at A;unfold z1O at A;have HD:Hid (z0z d (zs.getD k z0e::zs.drop (k+1))=z0z xs zs):=by
    have:=HG.out.2;rw[z39 ak]at this;exact this
   by_cases hF:actC d (zs.getD k z0e)=0
   ·obtain⟨aA,aB⟩:=z3b aw HG.out.1 V hF;have ao:Hid (Good (actN d (zs.getD k z0e))∧z0z (actN d (zs.getD k z0e)) (zs.drop (k + 1))=z0z xs zs):=⟨aB,by
     have:=HD.out;rw[z1V,if_pos hF]at this;exact this⟩
    rw[hF]at A;clear HD aB HG V hF T C U hR;generalize actN d (zs.getD k z0e)=nx at A ao aA
    go_wp2_with fail
    refine A.mono ?_;rintro e w5 ⟨b5,n5,c5,rfl,aq,N⟩;obtain⟨rfl,aG,ar,_⟩:=aq (by first|trivial|rfl);have W:=hb.trans (N.mono ab);clear A hb N d3 aq
    go_wp2
    go_roundw
    case rel=>exact⟨k+1,nx,b5,c5,by omega,by go_num,rfl,aG,ar,aA,ao,W⟩
    case measure=>simp[intOf];omega
   ·have HC:Hid (z0z xs zs=(actC d (zs.getD k z0e),[])):=by
     have:=HD.out;rw[z1V,if_neg hF]at this;exact this.symm
    have HE:Hid ((z0z xs zs).1=actC d (zs.getD k z0e)∧runR xs zs=[]∧runV xs zs=0):=by
     have hh:=HC.out;refine⟨by rw[hh],?_,?_⟩
     ·unfold runR;rw[hh];exact if_neg hF
     ·unfold runV;rw[hh];exact if_neg hF
    have Y:(actC d (zs.getD k z0e) !=0)=true:=by simpa using hF
    clear HD HG V hF HC T C U hR;generalize actC d (zs.getD k z0e)=r at A HE Y
    go_wp2_with fail
    refine A.mono ?_;rintro e w5 ⟨b5,n5,c5,rfl,_,N⟩;have W:=hb.trans (N.mono ab);replace B0:=B0.below W;obtain⟨p0,p1,p2⟩:=B0.cel3;obtain⟨f0,f1,f2⟩:=B0.frz3;have aK:=B0.lt;clear A hb N d3 B0
    go_wp2
    refine bodyPost_ret (v:=.agg #[F G r,F G 0,R none 0 0]) (by simp[results,results196,go_sem,p0,p1,p2]) rfl ?_;rw[HE.out.1,HE.out.2.1,HE.out.2.2];refine⟨_,_,rfl,World.ownsRow_nil _ _ _ _,?_⟩;repeat' (refine Below.setCell ?_ (by dsimp only;omega) _)
    exact M.trans (W.mono aa)
  ·have az:k=zs.length:=by omega
   have HC:Hid (z0z xs zs=(0,d)):=by
    have:=HG.out.2;rw[az,List.drop_length]at this;exact this.symm
   subst az;obtain⟨n,hn⟩:∃n,zs.length=n+1:=⟨zs.length-1,by omega⟩
   obtain⟨b,I,rfl,X⟩:=aC n (by omega);obtain⟨b',aM,e,_,T,C,U⟩:=(aE.below hb).at n (by omega);simp only[Option.some.injEq,Addr.mk.injEq,and_true]at e;obtain⟨rfl,rfl⟩:=e;have HL:Hid (z52 zs=(zs.getD n z0e).key):=by
    show _=_;unfold z52;rw[hn,Nat.add_sub_cancel]
   generalize (zs.getD n z0e).key=kk at C HL;have am:=fun w h=>z2s nb nc d kk w h (by omega)
   have HE:Hid ((z0z xs zs).1=0∧runR xs zs=d∧runV xs zs=valI d kk):=by
    have hh:=HC.out;refine⟨by rw[hh],?_,?_⟩
    ·unfold runR;rw[hh];exact if_pos rfl
    ·unfold runV;rw[hh,HL.out];exact if_pos rfl
   generalize valI d kk=vv at am HE;replace B0:=B0.below hb;have av:Below w.heap.size w wr:=M.trans (hb.mono aa);have aL:=B0.lt;have Y:Nonempty (LatB w.heap.size wr):=⟨⟨wr,Below.refl _ _⟩⟩
   have aD:(zs.length:Int)-1=(n:Int):=by omega
   have aN:n<zs.length:=by omega
   clear hn;have k0:=z6W C X;have k1:=z6W d3 aF;have hW:Below w.heap.size wr wr.drew:=(Below.refl _ _).drew;have af:Below w.heap.size wr (wr.drew.alloc (.cells #[] 173)):=hW.alloc (by show w.heap.size≤wr.heap.size;omega) _;have O:Below wr.heap.size wr (wr.drew.alloc (.cells #[] 173)):=((Below.refl _ _).drew).alloc (l _) _;clear T U C HC HG HL c3
   go_wp2_with fail
   clear d3;refine z0d (S:=fun w'=>∃u:LatB w.heap.size wr,w'=u.val) (by kernel_rfl) ?_;refine sgr [(0,9)] 11 (by kernel_rfl) ⟨⟨_,hW⟩,rfl⟩ ?_;simp only[pkE];repeat go_big_quiet_step (fail)
   refine wpQuiet_nil ?_;refine qta 9 (some 46) (F G zs.length) 10 (by kernel_rfl) (fun u _=>by kernel_rfl) ⟨⟨_,hW⟩,rfl⟩ ?_;simp only[Act.put,pgE,pjE];refine sgr [(10,4),(16,1)] 5 (by kernel_rfl) ⟨⟨_,hW⟩,rfl⟩ ?_;simp only[pkE];repeat go_big_quiet_step (fail)
   refine wpQuiet_nil ?_;clear k0 k1 aD;refine twa 14 15 4 (by kernel_rfl) ?_ ?_
   ·refine opc 14 (some 51) 226 #[R nb d.length nc,F G kk] (by kernel_rfl) ?_;refine(am _ (hR.below ((Below.refl _ _).drew))).mono ?_;rintro e w' ⟨rfl,hw⟩;subst hw;refine⟨_,rfl,⟨⟨_,hW⟩,rfl⟩,?_⟩;simp only[Act.put,pgE,pjE];refine ona 15 3 rfl (by kernel_rfl) ?_
    go_wp2
    refine ThenGo.to ⟨⟨⟨_,af⟩,rfl⟩,?_⟩;have D:=World.ownsRow_lit (size:=2) (e:=173) wr.drew #[] 0 (l _) (by decide) rfl;change(wr.drew.alloc (.cells #[] 173)).ownsRow wr.heap.size _ _ (R (some ⟨wr.heap.size,0,none⟩) 0 0) 0 []at D;refine ona 17 2 rfl (by kernel_rfl) ?_;refine z0G _ rfl _ _ rfl wr.heap.size wr.heap.size rfl D nb d nc rfl (hR.below O) ad (by omega) (by simp) ?_;intro a7 c7 w7 y ag;have L:Below wr.heap.size wr w7:=O.trans ag;have z:Below w.heap.size wr w7:=L.mono (by omega);clear D
    go_wp2
    refine ThenGo.to ⟨⟨⟨_,z⟩,rfl⟩,?_⟩;simp only[Act.put,pgE,pjE];refine sgr [(18,1)] 1 (by kernel_rfl) ⟨⟨_,z⟩,rfl⟩ ?_;simp only[pkE];repeat go_big_quiet_step (fail)
    refine wpQuiet_nil ?_;refine ona 19 0 rfl (by kernel_rfl) ?_;replace B0:=B0.below L;obtain⟨p0,p1,p2⟩:=B0.cel3;obtain⟨f0,f1,f2⟩:=B0.frz3;have aI:=B0.lt;have aj:Below w.heap.size w w7:=av.trans z;have ae:=((z.setCell (p:=⟨w.heap.size,0,none⟩) (l _) (F G 0)).setCell (p:=⟨w.heap.size,1,none⟩) (l _) (F G vv)).setCell (p:=⟨w.heap.size,2,none⟩) (l _) (R a7 d.length c7);clear B0 Y
    go_wp2
    refine ThenGo.to ⟨⟨⟨_,ae⟩,rfl⟩,?_⟩;refine z0h (by kernel_rfl) ?_
    go_wp2
    refine bodyPost_ret (v:=.agg #[F G 0,F G vv,R a7 d.length c7]) (by simp[results,results196,go_sem,p0,p1,p2]) rfl ?_;rw[HE.out.1,HE.out.2.1,HE.out.2.2];refine⟨_,_,rfl,?_,?_⟩
    ·refine z0r (base:=wr.heap.size) ?_ (by omega);repeat' (refine ownsRow_setCell_below ?_ (by dsimp only;omega) _)
     exact y
    ·repeat' (refine Below.setCell ?_ (by dsimp only;omega) _)
     exact aj
   ·refine z1P 15 _ rfl ?_
    go_wp2
    refine ThenGo.to ⟨⟨⟨_,af⟩,rfl⟩,?_⟩;refine cla 14 (some 51) 226 #[R nb d.length nc,F G kk] 3 (by kernel_rfl) ?_;refine(am _ (hR.below O)).mono ?_;rintro e w' ⟨rfl,hw⟩;subst hw;refine⟨_,rfl,⟨⟨_,af⟩,rfl⟩,?_⟩;simp only[Act.put,pgE,pjE];have D:=World.ownsRow_lit (size:=2) (e:=173) wr.drew #[] 0 (l _) (by decide) rfl;change(wr.drew.alloc (.cells #[] 173)).ownsRow wr.heap.size _ _ (R (some ⟨wr.heap.size,0,none⟩) 0 0) 0 []at D;refine ona 17 2 rfl (by kernel_rfl) ?_;refine z0G _ rfl _ _ rfl wr.heap.size wr.heap.size rfl D nb d nc rfl (hR.below O) ad (by omega) (by simp) ?_;intro a7 c7 w7 y ag;have L:Below wr.heap.size wr w7:=O.trans ag;have z:Below w.heap.size wr w7:=L.mono (by omega);clear D
    go_wp2
    refine ThenGo.to ⟨⟨⟨_,z⟩,rfl⟩,?_⟩;simp only[Act.put,pgE,pjE];refine sgr [(18,1)] 1 (by kernel_rfl) ⟨⟨_,z⟩,rfl⟩ ?_;simp only[pkE];repeat go_big_quiet_step (fail)
    refine wpQuiet_nil ?_;refine ona 19 0 rfl (by kernel_rfl) ?_;replace B0:=B0.below L;obtain⟨p0,p1,p2⟩:=B0.cel3;obtain⟨f0,f1,f2⟩:=B0.frz3;have aI:=B0.lt;have aj:Below w.heap.size w w7:=av.trans z;have ae:=((z.setCell (p:=⟨w.heap.size,0,none⟩) (l _) (F G 0)).setCell (p:=⟨w.heap.size,1,none⟩) (l _) (F G vv)).setCell (p:=⟨w.heap.size,2,none⟩) (l _) (R a7 d.length c7);clear B0 Y
    go_wp2
    refine ThenGo.to ⟨⟨⟨_,ae⟩,rfl⟩,?_⟩;refine z0h (by kernel_rfl) ?_
    go_wp2
    refine bodyPost_ret (v:=.agg #[F G 0,F G vv,R a7 d.length c7]) (by simp[results,results196,go_sem,p0,p1,p2]) rfl ?_;rw[HE.out.1,HE.out.2.1,HE.out.2.2];refine⟨_,_,rfl,?_,?_⟩
    ·refine z0r (base:=wr.heap.size) ?_ (by omega);repeat' (refine ownsRow_setCell_below ?_ (by dsimp only;omega) _)
     exact y
    ·repeat' (refine Below.setCell ?_ (by dsimp only;omega) _)
     exact aj
end
section
variable {ops:Array Oper} {rest:List Oper} {o:Oper} {a:Act} {Q:Exit→Act→World→Prop}
theorem z1m{P:Type}{K:Kind P}(w:World)(y:o.guard=none)(s x:Operand)(t:TypeId)(ho:o.op=.call {callee:=.builtin .append,args:=#[s,x],argTypes:=#[t,t]})
  (i0:TypeInfo) (z:Value) (d:Nat) (ht:H.underlying t=some (.slice K.ty)) (hi:H.info? K.ty=some i0) (C:i0.zero=some z) (D:i0.size=K.size) (E:i0.bytes=d) (I:z.cells.size=K.size) (A:0<K.size)
  (B:Nat) (v:Value) (rs:List P) (hs:a.eval s=v) (c:w.ownsRow B K.ty K.size v rs.length (K.row rs)) (sa:Option Addr) (xs:List P) (sc:Nat) (hx:a.eval x=R sa xs.length sc) (hr:Lies w sa (K.row xs)) (h1:∀u∈K.row xs,u.oneCell'=true) (hN:z8S sa xs.length sc)
  (hm:rs.length+xs.length≤maxLen) (hb:(rs.length+xs.length)*d≤140737488355328) (hB:B≤w.heap.size)
  (h:∀v' w',w'.ownsRow B K.ty K.size v' (rs++xs).length (K.row (rs++xs))→w.grownBy w' v.ownBlock→wpList H ops Q rest (a.put o.dst v') w'):wpList H ops Q (o::rest) a w:=by
 have e:K.row (rs++xs)=K.row rs++K.row xs:=by simp[Kind.row]
 rw[e,List.length_append]at h;rcases hN with⟨ad,rfl⟩|⟨rfl,hn,rfl⟩
 ·exact wpList_append_own w y s x t ho B K.ty i0 z K.size d ht hi C D E I A v rs.length (K.row rs) hs c ad xs.length sc (K.row xs) hx (Kind.row_length xs) (z8U hr) h1 hm hb hB (fun v' w' h2 h3 _=>h v' w' h2 h3)
 ·have hz:xs=[]:=List.eq_nil_of_length_eq_zero hn;subst hz;refine wpList_append_own_none y s x t ho B K.ty i0 K.size ht hi v rs.length (K.row rs) hs c hx ?_;exact h _ _ (by simpa[Kind.row]using c) (World.grownBy.refl _ _)
end
def z4D(v:Value):Prop:=∀a n c,v=R a n c→z8S a n c
theorem Kind.Own.niceV{P:Type}{K:Kind P}{w:World}{v:Value}{ps:List P}(h:K.Own w v ps):z4D v:=by
 intro a n c e;rcases h.1.2 with⟨h1,_⟩|⟨g,cap,cur,h1,_⟩
 ·rw[h1]at e;simp only[Value.slice.injEq]at e;obtain⟨rfl,rfl,rfl⟩:=e;exact Or.inr ⟨rfl,rfl,rfl⟩
 ·rw[h1]at e;simp only[Value.slice.injEq]at e;obtain⟨rfl,_,_⟩:=e;exact Or.inl ⟨_,rfl⟩
theorem z7M{w:World}{ps:List TxnQ}(h:∀p∈ps,txnK.rd w p):∀u∈txnK.row ps,u.oneCell'=true:=by
 intro u hu;obtain⟨p,hp,hu⟩:=List.mem_flatMap.1 hu;have hr:actK.At w p.va p.acts:=h p hp;obtain⟨a,c,e⟩:=hr.shape;have hu:u∈[Value.int .i64 p.i,F G p.s,F G p.q,p.va]:=hu;rw[e]at hu;simp only[List.mem_cons,List.not_mem_nil,or_false]at hu;rcases hu with rfl|rfl|rfl|rfl<;>rfl
theorem q3b(n:Nat)(w:World)(hn:n≤1000):
  Calls H 173 #[R none 0 0,F G n] w fun e w'=>∃v,e=.returned v∧w'.ownsRow w.heap.size 158 4 v 0 []∧Below w.heap.size w w':=by
 obtain⟨i0,hi,hz0,hz1,hz2⟩:=info_parts z1y;by_cases h0:n=0
 ·subst h0;go_enter func173,ntmps173
  go_wp2
  go_ret;exact⟨_,rfl,World.ownsRow_nil _ _ _ _,Below.refl _ _⟩
 ·have hap:=Lib.run_append_nil_zeros (P:=H) w 52 3 52 158 i0 (.agg #[F G 0,F G 0,F G 0,R none 0 0]) .i64 .i64 Tryz.underlying52 Tryz.underlying3 hi hz0 n (by omega) (by rw[hz1];decide) (by omega) (by rw[hz2];omega);have hge:=grownCap_ge w n 0 158;have hle:=grownCap_le_maxLen w n 0 158 (by unfold maxLen;omega);generalize grownCap w n 0 158=cp at*;have hsz:(Builtin.zeroCells (Value.agg #[F G 0,F G 0,F G 0,R none 0 0]).cells n++Builtin.zeroCells (Value.agg #[F G 0,F G 0,F G 0,R none 0 0]).cells (cp-n)).size=cp*4:=by
   rw[Array.size_append,size_zeroCells,size_zeroCells];show n*4+(cp-n)*4=cp*4;omega
  have ho:=World.ownsRow_made (base:=w.heap.size) (e:=158) (size:=4) w.drew _ cp (by simp) hle hsz;have hB:Below w.heap.size w (w.drew.alloc (.cells (Builtin.zeroCells (Value.agg #[F G 0,F G 0,F G 0,R none 0 0]).cells n++Builtin.zeroCells (Value.agg #[F G 0,F G 0,F G 0,R none 0 0]).cells (cp-n)) 158)):=by go_grown
  generalize (Builtin.zeroCells (Value.agg #[F G 0,F G 0,F G 0,R none 0 0]).cells n++Builtin.zeroCells (Value.agg #[F G 0,F G 0,F G 0,R none 0 0]).cells (cp-n))=cz at*;have hni:(0:Int)<(n:Int):=by omega
  have hcpi:(0:Int)≤(cp:Int):=by omega
  go_enter func173,ntmps173
  go_wp2_with (at_builtin;refine Lib.wpList_append_run _ rfl _ _ _ _ rfl _ _ rfl rfl _ _ hap ?_)
  go_wp2
  go_ret;exact⟨_,rfl,ho,hB⟩
theorem z9V(b cp:Nat)(v1 v2:Value)(ps qs:List TxnQ)(w:World)(hb:b<w.heap.size)(k0:w.cell? ⟨b,0,none⟩=some v1)(k1:w.cell? ⟨b,1,none⟩=some v2)(h1:txnK.At w v1 ps)(h2:txnK.At w v2 qs)(n1:z4D v1)(n2:z4D v2)(hl:ps.length+qs.length≤1000):
  Calls H 131 #[R (some ⟨b,0,none⟩) 2 cp] w fun e w'=>∃v,e=.returned v∧w'.ownsRow w.heap.size 158 4 v (ps++qs).length (txnK.row (ps++qs))∧Below w.heap.size w w':=by
 obtain⟨i0,hi,C,D,E⟩:=info_parts z1y;obtain⟨a1,c1,rfl⟩:=h1.shape;obtain⟨a2,c2,rfl⟩:=h2.shape;have m1:=n1 _ _ _ rfl;have m2:=n2 _ _ _ rfl;clear n1 n2;have L:(ps.length:Int)≤1000:=by omega
 have M:(qs.length:Int)≤1000:=by omega
 have A:((ps.length+qs.length:Nat):Int)=(ps.length:Int)+(qs.length:Int):=by omega
 go_enter func131,ntmps131
 go_wp2
 go_loopw[3,11] (fun s i wr=>∃k:Nat,k≤2∧i=F G k∧s=F G (if k=0 then 0 else if k=1 then(ps.length:Int)else(ps.length:Int)+(qs.length:Int))∧wr=w) (fun _ i _=>2-(intOf i).toNat)
 case atStart=>exact⟨0,by omega,rfl,rfl,rfl⟩
 case round=>
  obtain⟨k,hk,rfl,rfl,rfl⟩:=hrel;obtain rfl|rfl|rfl:k=0∨k=1∨k=2:=by omega
  ·go_wp2
   go_roundw
   case rel=>exact⟨1,by omega,by go_num,by first|rfl|(congr 1;simp)|simp,by trivial⟩
   case measure=>simp[intOf]
  ·go_wp2
   go_roundw
   case rel=>exact⟨2,by omega,by go_num,by first|rfl|(congr 1;simp)|simp,by trivial⟩
   case measure=>simp[intOf]
  ·obtain⟨U,rfl⟩:∃U,U=wr:=⟨_,rfl⟩
   have hg:=q3b (ps.length+qs.length) U (by omega);rw[A]at hg;simp only[show¬(2=0) by decide,show¬(2=1) by decide,if_false]
   go_wp2_with fail
   refine hg.mono ?_;rintro e w2 ⟨v,rfl,ho,hB⟩;obtain⟨sa,sc,rfl⟩:=z0f ho;clear hg
   go_wp2
   go_loopw[6,27] (fun s i wx=>∃ (k:Nat) (rs:List TxnQ),k≤2∧i=F G k∧Hid (rs=if k=0 then []else if k=1 then ps else ps++qs)∧wx.ownsRow U.heap.size 158 4 s rs.length (txnK.row rs)∧Below U.heap.size U wx) (fun _ i _=>2-(intOf i).toNat)
   case atStart=>exact⟨0,[],by omega,rfl,(rfl:_=_),ho,hB⟩
   case round=>
    clear ho hB;obtain⟨k,rs,hk,rfl,HR,ho,hB⟩:=hrel;obtain⟨sa,sc,rfl⟩:=z0f ho;have g1:=(h1.below hB)
    have g2:=(h2.below hB)
    obtain⟨_,_,e1,l1,r1⟩:=g1;obtain⟨_,_,e2,l2,r2⟩:=g2;simp only[Value.slice.injEq,true_and]at e1 e2;obtain⟨rfl,rfl⟩:=e1;obtain⟨rfl,rfl⟩:=e2;have o1:=z7M r1;have o2:=z7M r2;have d0:=(hB.cell (p:=⟨b,0,none⟩) hb).trans k0;have d1:=(hB.cell (p:=⟨b,1,none⟩) hb).trans k1;have y:=hB.size;obtain rfl|rfl|rfl:k=0∨k=1∨k=2:=by omega
    ·have x:rs=[]:=HR.out;subst x;have x1:([]:List TxnQ).length+ps.length≤maxLen:=by unfold maxLen;rw[List.length_nil];omega
     have x2:(([]:List TxnQ).length+ps.length)*48≤140737488355328:=by rw[List.length_nil];omega
     go_wp2_with (at_builtin;refine z1m (K:=txnK) _ rfl _ _ 52 rfl i0 (.agg #[F G 0,F G 0,F G 0,R none 0 0]) 48 Tryz.underlying52 hi C D E rfl (by decide) U.heap.size _ [] rfl ho _ ps _ rfl l1 o1 m1 x1 x2 y ?_)
     intro v' w5 c d;have z:Below U.heap.size U w5:=hB.grown d (by omega) (fun k hk=>(ho.lt k hk).1);obtain⟨I,J,rfl⟩:=z0f c;clear d0 d1 l1 l2 o1 o2 r1 r2 ho d hB HR;try simp only[List.nil_append]at c⊢
     go_wp2
     go_roundw
     case rel=>exact⟨1,ps,by omega,by go_num,(rfl:_=_),(by first|exact c|(rw[List.length_append];exact c)|simpa using c),z⟩
     case measure=>simp[intOf]
    ·have x:rs=ps:=HR.out;subst x;have x1:rs.length+qs.length≤maxLen:=by unfold maxLen;omega
     have x2:(rs.length+qs.length)*48≤140737488355328:=by omega
     go_wp2_with (at_builtin;refine z1m (K:=txnK) _ rfl _ _ 52 rfl i0 (.agg #[F G 0,F G 0,F G 0,R none 0 0]) 48 Tryz.underlying52 hi C D E rfl (by decide) U.heap.size _ rs rfl ho _ qs _ rfl l2 o2 m2 x1 x2 y ?_)
     intro v' w5 c d;have z:Below U.heap.size U w5:=hB.grown d (by omega) (fun k hk=>(ho.lt k hk).1);obtain⟨I,J,rfl⟩:=z0f c;clear d0 d1 l1 l2 o1 o2 r1 r2 ho d hB HR
     go_wp2
     go_roundw
     case rel=>exact⟨2,rs++qs,by omega,by go_num,(rfl:_=_),(by first|exact c|(rw[List.length_append];exact c)|simpa using c),z⟩
     case measure=>simp[intOf]
    ·have x:rs=ps++qs:=HR.out;subst x;clear d0 d1 l1 l2 o1 o2 r1 r2 HR
     go_wp2
     go_ret;exact⟨_,rfl,ho,hB⟩
end Go.Proofs.YtjjoahhnkpjolaaGreatDoor

/- Texts joined,with what the laws reach alone. -/
import Derived.Test.YtlkpdgjnhkjpjaaGreatDoorSCAW
import Derived.Laws.AppendOwnNone
import Derived.Lib.AppendZeros
set_option linter.unusedVariables false
set_option linter.unusedSimpArgs false
set_option maxRecDepth 100000
set_option maxHeartbeats 4000000
namespace Go.Proofs.YtlkpdgjnhkjpjaaGreatDoor
open Go.RowKit Go.BigFrame
section
open Go.Maps
theorem z9X{xs:List ItemD}(g:Good xs)(hl:xs.length≤8)(k v:Int)(hv:inW v (-20000) 20000=true):
  (8<(setI xs ⟨k,v⟩).length∧layC xs k v=7)∨(¬8<(setI xs ⟨k,v⟩).length∧layC xs k v=0):=by
 rw[z5A g];dsimp only;rcases z8w xs k v with⟨h1,_⟩|⟨_,h2,e⟩|⟨_,h2,h3,e⟩|⟨_,h2,h3,e⟩
 ·rw[hv]at h1;simp at h1
 ·right;rw[h2];exact⟨by simp;omega,e⟩
 ·left;rw[h2];exact⟨by simp;omega,e⟩
 ·right;rw[h2];exact⟨by simp;omega,e⟩
def ItB(w:World)(a:Option Addr):Prop:=∀x off,a=some ⟨x,off,none⟩→∃cs,w.heap[x]?=some (.cells cs 119 (0,0))
theorem z7p{w:World}{base n c:Nat}{a:Option Addr}{xs:List Value}(h:w.ownsRow base 119 2 (.slice a n c) n xs):ItB w a:=by
 intro x off e;subst e;rcases h.2 with⟨hv,_⟩|⟨g,cap,cur,hv,_,hh,_⟩
 ·simp at hv
 ·simp only[Value.slice.injEq,Option.some.injEq,Addr.mk.injEq,and_true]at hv;obtain⟨⟨rfl,rfl⟩,_⟩:=hv;exact⟨_,hh⟩
def z1A(w:World)(a:Option Addr)(xs:List ItemD)(z:ActD)(e:Ending)(w':World):Prop:=
 ∃b n c,e=.returned (.tuple #[.slice b n c,.int .i64 (actC xs z)])∧(actC xs z=0→n=(actN xs z).length∧ItemRow w' b (actN xs z)∧z6a b n c∧(b=a∨ItB w' b))∧Below w.heap.size w w'
theorem z8x(a:Option Addr)(cap:Nat)(xs:List ItemD)(pb po:Nat)(k y v:Int)(w:World)(h:ItemRow w a xs)(hN:z6a a xs.length cap)(hl:xs.length≤8)(g:Good xs)(ha:actF ⟨k,y,v⟩=0)
  (p0:w.cell? ⟨pb,po,none⟩=some (.int .i64 k)) (p1:w.cell? ⟨pb,po+1,none⟩=some (.int .i64 y)) (p2:w.cell? ⟨pb,po+2,none⟩=some (.int .i64 v)):
  Calls Tryz.prog 229 #[.slice a xs.length cap,.pointer (some ⟨pb,po,none⟩)] w (z1A w a xs ⟨k,y,v⟩):=by
 obtain⟨hk,hy,hv⟩:=z11 ha;dsimp only at hk hy hv;have O:=g.valI y;have C:=fun w h=>z7o a cap xs y w h (by omega)
 have z:=fun w h=>z2i a cap xs y w h (by omega)
 have d:=fun x1 w h=>q2k a cap xs y x1 w h (by omega)
 have x:=fun w h=>q0S a cap xs y w h (by omega)
 have A:=fun v w=>z3r v (-20000) 20000 w
 have aa:∀x1,setR ⟨y,x1⟩ false xs=setI xs ⟨y,x1⟩:=fun x1=>z6w ⟨y,x1⟩ g.rise
 simp only[aa]at d;rcases(show k=1∨k=2∨k=3∨k=4 by omega)with rfl|rfl|rfl|rfl
 ·have e1:actC xs ⟨1,y,v⟩=layC xs y v:=by simp[actC]
  have e2:actN xs ⟨1,y,v⟩=setI xs ⟨y,v⟩:=by simp[actN]
  unfold z1A;rw[e1,e2];clear e1 e2;have I:inW v (-20000) 20000=true:=by simp[inW];omega
  replace d:=d v;go_enter Tryz.func229,Tryz.ntmps229
  go_wp2_with fail
  refine(C _ h).mono ?_;rintro e w' ⟨r,rfl,hr,hw⟩;replace hw:=hw.symm;subst hw;clear hr;rcases z9X g hl y v I with⟨h8,e⟩|⟨h8,e⟩
  ·have E:Hid (layC xs y v=7):=e;clear e C z x;generalize setI xs ⟨y,v⟩=N at d h8
   go_wp2_with fail
   refine(d _ h).mono ?_;rintro e w' ⟨b,c,rfl,ho,hb⟩;clear d
   go_wp2
   refine bodyPost_ret (v:=.tuple #[.slice none 0 0,.int .i64 7]) (by simp[results,Tryz.results229,go_sem]) rfl ?_;rw[E.out];exact⟨_,_,_,rfl,fun h=>by simp at h,hb⟩
  ·have E:Hid (layC xs y v=0):=e;clear e C z x;generalize J:setI xs ⟨y,v⟩=N at d h8;have HN:Hid (setI xs ⟨y,v⟩=N):=J;clear J
   go_wp2_with fail
   refine(d _ h).mono ?_;rintro e w' ⟨b,c,rfl,ho,hb⟩;have L:ItemRow w' b N:=Lies.own ho;have T:z6a b N.length c∧(b=a∨ItB w' b):=⟨z2h ho,Or.inr (z7p ho)⟩
   clear d ho
   go_wp2
   refine bodyPost_ret (v:=.tuple #[.slice b N.length c,.int .i64 0]) (by simp[results,Tryz.results229,go_sem]) rfl ?_;rw[E.out,HN.out];exact⟨_,_,_,rfl,fun _=>⟨rfl,L,T⟩,hb⟩
 ·have e1:actC xs ⟨2,y,v⟩=layC xs y (valI xs y+v):=by simp[actC]
  have e2:actN xs ⟨2,y,v⟩=setI xs ⟨y,(valI xs y+v)⟩:=by simp[actN]
  unfold z1A;rw[e1,e2];clear e1 e2;replace d:=d (valI xs y+v);go_enter Tryz.func229,Tryz.ntmps229
  go_wp2_with fail
  refine(C _ h).mono ?_;rintro e w' ⟨r,rfl,hr,hw⟩;replace hw:=hw.symm;subst hw;clear hr C;replace A:=A (valI xs y+v)
  cases I:inW (valI xs y+v) (-20000) 20000
  ·have E:Hid (layC xs y (valI xs y+v)=3):=if_pos I;rw[I]at A;clear d x;generalize X:valI xs y=cv at z O A;have HC:Hid (valI xs y=cv):=X;clear X I;have e3:Hid (v+cv=cv+v):=Int.add_comm v cv
   go_wp2_with fail
   refine(z _ h).mono ?_;rintro e w' ⟨rfl,hw⟩;replace hw:=hw.symm;subst hw;rw[Int.add_comm cv v]at A
   go_wp2_with fail
   refine(A _).mono ?_;rintro e w' ⟨rfl,hw⟩;replace hw:=hw.symm;subst hw
   go_wp2
   refine bodyPost_ret (v:=.tuple #[.slice none 0 0,.int .i64 3]) (by simp[results,Tryz.results229,go_sem]) rfl ?_;rw[E.out];exact⟨_,_,_,rfl,fun h=>by simp at h,Below.refl _ _⟩
  ·rw[I]at A;rcases z9X g hl y (valI xs y+v) I with⟨h8,e⟩|⟨h8,e⟩
   ·have E:Hid (layC xs y (valI xs y+v)=7):=e;clear e x I;generalize setI xs ⟨y,valI xs y+v⟩=N at d h8;have EE:Hid (layC xs y (valI xs y+v)=7):=E;clear E;generalize W:valI xs y=cv at z O A d;clear W;rw[Int.add_comm cv v]at A d
    go_wp2_with fail
    refine(z _ h).mono ?_;rintro e w' ⟨rfl,hw⟩;replace hw:=hw.symm;subst hw
    go_wp2_with fail
    refine(A _).mono ?_;rintro e w' ⟨rfl,hw⟩;replace hw:=hw.symm;subst hw
    go_wp2_with fail
    refine(d _ h).mono ?_;rintro e w' ⟨b,c,rfl,ho,hb⟩;clear d
    go_wp2
    refine bodyPost_ret (v:=.tuple #[.slice none 0 0,.int .i64 7]) (by simp[results,Tryz.results229,go_sem]) rfl ?_;rw[EE.out];exact⟨_,_,_,rfl,fun h=>by simp at h,hb⟩
   ·have E:Hid (layC xs y (valI xs y+v)=0):=e;clear e x I;generalize J:setI xs ⟨y,valI xs y+v⟩=N at d h8;have HN:Hid (setI xs ⟨y,valI xs y+v⟩=N):=J;clear J;generalize W:valI xs y=cv at z O A d;clear W;rw[Int.add_comm cv v]at A d
    go_wp2_with fail
    refine(z _ h).mono ?_;rintro e w' ⟨rfl,hw⟩;replace hw:=hw.symm;subst hw
    go_wp2_with fail
    refine(A _).mono ?_;rintro e w' ⟨rfl,hw⟩;replace hw:=hw.symm;subst hw
    go_wp2_with fail
    refine(d _ h).mono ?_;rintro e w' ⟨b,c,rfl,ho,hb⟩;have L:ItemRow w' b N:=Lies.own ho;have T:z6a b N.length c∧(b=a∨ItB w' b):=⟨z2h ho,Or.inr (z7p ho)⟩
    clear d ho
    go_wp2
    refine bodyPost_ret (v:=.tuple #[.slice b N.length c,.int .i64 0]) (by simp[results,Tryz.results229,go_sem]) rfl ?_;rw[E.out,HN.out];exact⟨_,_,_,rfl,fun _=>⟨rfl,L,T⟩,hb⟩
 ·go_enter Tryz.func229,Tryz.ntmps229
  go_wp2_with fail
  refine(C _ h).mono ?_;rintro e w' ⟨r,rfl,hr,hw⟩;replace hw:=hw.symm;subst hw;rcases hr with⟨rfl,hh,_⟩|⟨j,rfl,hj,hh,_⟩
  ·have E:Hid (actC xs ⟨3,y,v⟩=4):=by simp[Hid,actC,hh]
   clear C z d x
   go_wp2
   refine bodyPost_ret (v:=.tuple #[.slice none 0 0,.int .i64 4]) (by simp[results,Tryz.results229,go_sem]) rfl ?_;unfold z1A;rw[E.out];exact⟨_,_,_,rfl,fun h=>by simp at h,Below.refl _ _⟩
  ·have E:Hid (actC xs ⟨3,y,v⟩=0):=by simp[Hid,actC,hh]
   have E2:Hid (actN xs ⟨3,y,v⟩=delI xs y):=by simp[Hid,actN]
   clear C z d;generalize J:delI xs y=N at x;have HN:Hid (delI xs y=N):=J;clear J
   go_wp2_with fail
   refine(x _ h).mono ?_;rintro e w' ⟨b,c,rfl,ho,hb⟩;have L:ItemRow w' b N:=Lies.own ho;have T:z6a b N.length c∧(b=a∨ItB w' b):=⟨z2h ho,Or.inr (z7p ho)⟩
   clear x ho
   go_wp2
   refine bodyPost_ret (v:=.tuple #[.slice b N.length c,.int .i64 0]) (by simp[results,Tryz.results229,go_sem]) rfl ?_;unfold z1A;rw[E.out,E2.out,HN.out];exact⟨_,_,_,rfl,fun _=>⟨rfl,L,T⟩,hb⟩
 ·go_enter Tryz.func229,Tryz.ntmps229
  go_wp2_with fail
  refine(C _ h).mono ?_;rintro e w' ⟨r,rfl,hr,hw⟩;replace hw:=hw.symm;subst hw;rcases hr with⟨rfl,hh,_⟩|⟨j,rfl,hj,hh,Y⟩
  ·have E:Hid (actC xs ⟨4,y,v⟩=9):=by simp[Hid,actC,hh]
   clear C z d x;have hW:Below w.heap.size w w.drew:=(Below.refl _ _).drew;have U:Nonempty (Lat w):=⟨⟨w,Below.refl _ _⟩⟩
   go_wp2_with fail
   refine z0e (S:=fun w'=>∃u:Lat w,w'=u.val) (by kernel_rfl) ?_;refine sgr [(0,14)] 0 (by kernel_rfl) ⟨⟨_,hW⟩,rfl⟩ ?_;simp only[pkE];repeat go_big_quiet_step (fail)
   refine wpQuiet_nil ?_;refine z0i (by kernel_rfl) ?_;clear U
   go_wp2
   refine bodyPost_ret (v:=.tuple #[.slice none 0 0,.int .i64 9]) (by simp[results,Tryz.results229,go_sem]) rfl ?_;unfold z1A;rw[E.out];exact⟨_,_,_,rfl,fun h=>by simp at h,hW⟩
  ·obtain⟨b,ab,rfl,ad,Z,M⟩:=h.at j hj;have E2:Hid (actN xs ⟨4,y,v⟩=xs):=by simp[Hid,actN]
   rw[←Y]at M;have ae:decide ((j:Int)<0)=false:=decide_eq_false (by omega);clear C z d x Z Y;by_cases hc:valI xs y=v
   ·have E:Hid (actC xs ⟨4,y,v⟩=0):=by simp[Hid,actC,hh,hc]
    have V:(v !=v)=false:=by simp
    rw[hc]at M;clear hc O;have d0:=z0f M;have d1:=z0f p2;have hW:Below w.heap.size w w.drew:=(Below.refl _ _).drew;have U:Nonempty (Lat w):=⟨⟨w,Below.refl _ _⟩⟩
    go_wp2_with fail
    refine z0e (S:=fun w'=>∃u:Lat w,w'=u.val) (by kernel_rfl) ?_;refine sgr [(0,14)] 0 (by kernel_rfl) ⟨⟨_,hW⟩,rfl⟩ ?_;simp only[pkE];repeat go_big_quiet_step (fail)
    refine wpQuiet_nil ?_;refine z0i (by kernel_rfl) ?_;clear U d0 d1
    go_wp2
    refine bodyPost_ret (v:=.tuple #[.slice (some ⟨b,ab,none⟩) xs.length cap,.int .i64 0]) (by simp[results,Tryz.results229,go_sem]) rfl ?_;unfold z1A;rw[E.out,E2.out];exact⟨_,_,_,rfl,fun _=>⟨rfl,h.below hW,hN,Or.inl rfl⟩,hW⟩
   ·have E:Hid (actC xs ⟨4,y,v⟩=9):=by simp[Hid,actC,hh,hc]
    have V:(valI xs y !=v)=true:=by simpa using hc
    clear hc;generalize valI xs y=cv at M V O;have d0:=z0f M;have d1:=z0f p2;have hW:Below w.heap.size w w.drew:=(Below.refl _ _).drew;have U:Nonempty (Lat w):=⟨⟨w,Below.refl _ _⟩⟩
    go_wp2_with fail
    refine z0e (S:=fun w'=>∃u:Lat w,w'=u.val) (by kernel_rfl) ?_;refine sgr [(0,14)] 0 (by kernel_rfl) ⟨⟨_,hW⟩,rfl⟩ ?_;simp only[pkE];repeat go_big_quiet_step (fail)
    refine wpQuiet_nil ?_;refine z0i (by kernel_rfl) ?_;clear U d0 d1
    go_wp2
    refine bodyPost_ret (v:=.tuple #[.slice none 0 0,.int .i64 9]) (by simp[results,Tryz.results229,go_sem]) rfl ?_;unfold z1A;rw[E.out];exact⟨_,_,_,rfl,fun h=>by simp at h,hW⟩
theorem z1k(zs:List ItemD):∀u∈z0c zs,u.oneCell'=true:=by
 intro u hu;simp only[z0c,List.mem_flatMap,ItemD.cells,List.mem_cons,List.not_mem_nil,or_false]at hu;obtain⟨z,_,rfl|rfl⟩:=hu<;>rfl
theorem z3M{w:World}{ad:Addr}{xs:List Value}(h:Lies w (some ad) xs):∀j u,xs[j]?=some u→w.cell? (ad.add j)=some u:=by
 intro j u hj;rcases h with rfl|⟨b',off',e,_,hc⟩
 ·simp at hj
 ·simp only[Option.some.injEq]at e;subst e;rw[Addr.add_lit];exact hc j u hj
section
variable {ops:Array Oper} {rest:List Oper} {o:Oper} {a:Act} {Q:Exit→Act→World→Prop}
theorem z0B(w:World)(A:o.guard=none)(s x:Operand)(ho:o.op=.call {callee:=.builtin .append,args:=#[s,x],argTypes:=#[26,26]})(base g:Nat)
  (hs:a.eval s=.slice (some ⟨g,0,none⟩) 0 0) (d:w.ownsRow base 119 2 (.slice (some ⟨g,0,none⟩) 0 0) 0 []) (sa:Option Addr) (zs:List ItemD) (sc:Nat) (hx:a.eval x=.slice sa zs.length sc) (hr:ItemRow w sa zs) (hN:z6a sa zs.length sc) (hl:zs.length≤1048576) (y:base≤w.heap.size)
  (h:∀a' c' w',w'.ownsRow base 119 2 (.slice a' zs.length c') zs.length (z0c zs)→Below base w w'→wpList Tryz.prog ops Q rest (a.put o.dst (.slice a' zs.length c')) w'):wpList Tryz.prog ops Q (o::rest) a w:=by
 obtain⟨i0,hi,C,I,J⟩:=info_parts z1h;rcases hN with⟨ad,rfl⟩|⟨rfl,hn,rfl⟩
 ·refine wpList_append_own w A s x 26 ho base 119 i0 (.agg #[.int .i64 0,.int .i64 0]) 2 16 Tryz.underlying26 hi C I J rfl (by decide) _ 0 [] hs d ad zs.length sc (z0c zs) hx (z0w zs) (z3M hr) (z1k zs) (by unfold maxLen;omega) (by omega) y ?_;intro v' w' c z _;simp only[Nat.zero_add,List.nil_append]at c;obtain⟨a',c',rfl⟩:=z0g c;exact h a' c' w' c ((Below.refl _ _).grown z y (fun k hk=>(d.lt k hk).1))
 ·have hz:zs=[]:=List.eq_nil_of_length_eq_zero hn;subst hz;refine wpList_append_own_none A s x 26 ho base 119 i0 2 Tryz.underlying26 hi _ 0 [] hs d hx ?_;exact h _ _ w d (Below.refl _ _)
end
theorem z6y{B:Nat}{w:World}{a:Addr}{v:Value}(h:w.cell? a=some v)(hlt:a.block<B):∀u:LatB B w,u.val.cell? a=some v:=fun u=>by
 rw[u.isBelow.cell hlt];exact h
def runR(xs:List ItemD)(zs:List ActD):List ItemD:=if(z0t xs zs).1=0 then(z0t xs zs).2 else []
def runV(xs:List ItemD)(zs:List ActD):Int:=if(z0t xs zs).1=0 then valI (z0t xs zs).2 (z5F zs)else 0
theorem q0T(a:Option Addr)(cap:Nat)(xs:List ItemD)(tb J:Nat)(i s q:Int)(ta:Option Addr)(tc:Nat)(zs:List ActD)(w:World)(h:ItemRow w a xs)(hN:z6a a xs.length cap)(hB:Box4 w tb J (.int .i64 i) (.int .i64 s) (.int .i64 q) (.slice ta zs.length tc))(ht:ActRow w ta zs)(h8:xs.length≤8)(g:Good xs)(h2:txnF i s q zs=0):
  Calls Tryz.prog 177 #[.slice a xs.length cap,.pointer (some ⟨tb,J,none⟩)] w fun e w'=>∃b c,e=.returned (.agg #[.int .i64 (z0t xs zs).1,.int .i64 (runV xs zs),.slice b (runR xs zs).length c])∧
   w'.ownsRow w.heap.size 119 2 (.slice b (runR xs zs).length c) (runR xs zs).length (z0c (runR xs zs))∧Below w.heap.size w w':=by
 obtain⟨⟨aR,aS⟩,ab⟩:=z0W h2;have HA:Hid (∀a∈zs,actF a=0):=ab;clear h2 ab;have aJ:Below w.heap.size w (w.alloc (.cells #[.int .i64 0,.int .i64 0,.slice none 0 0] 243)):=by go_grown
 have B0:=Blk.new w 243 #[.int .i64 0,.int .i64 0,.slice none 0 0];have aj:Below w.heap.size w ((w.alloc (.cells #[.int .i64 0,.int .i64 0,.slice none 0 0] 243)).alloc (.cells #[] 119)):=by go_grown
 have ap:=B0.below (w':=(w.alloc (.cells #[.int .i64 0,.int .i64 0,.slice none 0 0] 243)).alloc (.cells #[] 119)) (by go_grown);have an:=World.ownsRow_lit (size:=2) (e:=119) (w.alloc (.cells #[.int .i64 0,.int .i64 0,.slice none 0 0] 243)) #[] 0 (Nat.le_refl _) (by decide) rfl;rw[World.size_alloc]at an;have aL:w.heap.size+1≤((w.alloc (.cells #[.int .i64 0,.int .i64 0,.slice none 0 0] 243)).alloc (.cells #[] 119)).heap.size:=by simp
 have az:∀ (ops:Array Oper) (rest:List Oper) (o:Oper) (M:Act) (Q:Exit→Act→World→Prop) (aA:o.guard=none) (sx x:Operand) (ho:o.op=.call {callee:=.builtin .append,args:=#[sx,x],argTypes:=#[26,26]}) (hs:M.eval sx=.slice (some ⟨w.heap.size+1,0,none⟩) 0 0) (hx:M.eval x=.slice a xs.length cap)
   (hh:∀a' c' w',w'.ownsRow (w.heap.size+1) 119 2 (.slice a' xs.length c') xs.length (z0c xs)→Below (w.heap.size+1) ((w.alloc (.cells #[.int .i64 0,.int .i64 0,.slice none 0 0] 243)).alloc (.cells #[] 119)) w'→wpList Tryz.prog ops Q rest (M.put o.dst (.slice a' xs.length c')) w'),wpList Tryz.prog ops Q (o::rest) M ((w.alloc (.cells #[.int .i64 0,.int .i64 0,.slice none 0 0] 243)).alloc (.cells #[] 119)):=
  fun ops rest o M Q aA sx x ho hs hx hh=>z0B _ aA sx x ho (w.heap.size+1) (w.heap.size+1) hs an a xs cap hx (h.below aj) hN (by omega) (by simp) hh
 go_enter Tryz.func177,Tryz.ntmps177
 go_wp2_with (at_builtin;refine az _ _ _ _ _ rfl _ _ rfl rfl rfl ?_)
 intro a1 c1 w2 y ak;have O:Below w.heap.size w w2:=aj.trans (ak.mono (by omega));replace B0:Blk w2 _ _ _:=(ak.block _ (by omega)).trans ap;have aQ:w.heap.size<w2.heap.size:=B0.lt;have ar:=z2h y;have aw:ItemRow w2 a1 xs:=Lies.own y;obtain⟨b0,b1,b2,b3⟩:=hB;have aH:tb<w.heap.size:=World.block_lt_of_cell? w ⟨tb,J,none⟩ b0;have c3:w2.cell? ⟨tb,J+3,none⟩=_:=(O.cell (p:=⟨tb,J+3,none⟩) aH).trans b3;have aG:=ht.below O;have aE:∀k,k<zs.length→∃b L,ta=some ⟨b,L,none⟩∧b<w.heap.size:=fun k hk=>by
  obtain⟨b,L,e,Z,_⟩:=ht.at k hk;exact⟨b,L,e,Z⟩
 have ad:=O.size;clear az an ap aj aL aJ h hN y ak b0 b1 b2 b3 ht
 go_wp2
 go_loopw[5,6] (fun v j wr=>∃ (k:Nat) (d:List ItemD) (b:Option Addr) (c:Nat),k≤zs.length∧j=.int .i64 k∧v=.slice b d.length c∧ItemRow wr b d∧z6a b d.length c∧d.length≤8∧Hid (Good d∧z0t d (zs.drop k)=z0t xs zs)∧Below w2.heap.size w2 wr) (fun _ j _=>zs.length-(intOf j).toNat)
 case atStart=>exact⟨0,xs,a1,c1,Nat.zero_le _,rfl,rfl,aw,ar,h8,⟨g,by simp⟩,Below.refl _ _⟩
 case round=>
  clear aw ar;obtain⟨k,d,nb,nc,hk,rfl,rfl,hR,af,ay,HG,hb⟩:=hrel;have ae:=hb.size;have d3:wr.cell? ⟨tb,J+3,none⟩=_:=(hb.cell (p:=⟨tb,J+3,none⟩) (by dsimp only;omega)).trans c3;by_cases am:k<zs.length
  ·obtain⟨b,L,rfl,Z,V,C,W⟩:=(aG.below hb).at k am;have X:=HA.out (zs.getD k z0d) (by simp[List.getD,am]);have A:=z8x nb nc d b (L+k*3) (zs.getD k z0d).kind (zs.getD k z0d).key (zs.getD k z0d).val wr hR af ay HG.out.1 X V C W;change Calls _ _ _ _ (z1A wr nb d (zs.getD k z0d))at A;unfold z1A at A;have HD:Hid (z0t d (zs.getD k z0d::zs.drop (k+1))=z0t xs zs):=by
    have:=HG.out.2;rw[z3L am]at this;exact this
   by_cases hF:actC d (zs.getD k z0d)=0
   ·obtain⟨aC,aD⟩:=z2S ay HG.out.1 X hF;have aq:Hid (Good (actN d (zs.getD k z0d))∧z0t (actN d (zs.getD k z0d)) (zs.drop (k + 1))=z0t xs zs):=⟨aD,by
     have:=HD.out;rw[z1I,if_pos hF]at this;exact this⟩
    rw[hF]at A;clear HD aD HG X hF V C W hR;generalize actN d (zs.getD k z0d)=nx at A aq aC
    go_wp2_with fail
    refine A.mono ?_;rintro e w5 ⟨b5,n5,c5,rfl,au,T⟩;obtain⟨rfl,aI,av,_⟩:=au (by first|trivial|rfl);have Y:=hb.trans (T.mono ae);clear A hb T d3 au
    go_wp2
    go_roundw
    case rel=>exact⟨k+1,nx,b5,c5,by omega,by go_num,rfl,aI,av,aC,aq,Y⟩
    case measure=>simp[intOf];omega
   ·have HC:Hid (z0t xs zs=(actC d (zs.getD k z0d),[])):=by
     have:=HD.out;rw[z1I,if_neg hF]at this;exact this.symm
    have HE:Hid ((z0t xs zs).1=actC d (zs.getD k z0d)∧runR xs zs=[]∧runV xs zs=0):=by
     have hh:=HC.out;refine⟨by rw[hh],?_,?_⟩
     ·unfold runR;rw[hh];exact if_neg hF
     ·unfold runV;rw[hh];exact if_neg hF
    have aa:(actC d (zs.getD k z0d) !=0)=true:=by simpa using hF
    clear HD HG X hF HC V C W hR;generalize actC d (zs.getD k z0d)=r at A HE aa
    go_wp2_with fail
    refine A.mono ?_;rintro e w5 ⟨b5,n5,c5,rfl,_,T⟩;have Y:=hb.trans (T.mono ae);replace B0:=B0.below Y;obtain⟨p0,p1,p2⟩:=B0.cel3;obtain⟨f0,f1,f2⟩:=B0.frz3;have aM:=B0.lt;clear A hb T d3 B0
    go_wp2
    refine bodyPost_ret (v:=.agg #[.int .i64 r,.int .i64 0,.slice none 0 0]) (by simp[results,Tryz.results177,go_sem,p0,p1,p2]) rfl ?_;rw[HE.out.1,HE.out.2.1,HE.out.2.2];refine⟨_,_,rfl,World.ownsRow_nil _ _ _ _,?_⟩;repeat' (refine Below.setCell ?_ (by dsimp only;omega) _)
    exact O.trans (Y.mono ad)
  ·have aB:k=zs.length:=by omega
   have HC:Hid (z0t xs zs=(0,d)):=by
    have:=HG.out.2;rw[aB,List.drop_length]at this;exact this.symm
   subst aB;obtain⟨n,hn⟩:∃n,zs.length=n+1:=⟨zs.length-1,by omega⟩
   obtain⟨b,L,rfl,Z⟩:=aE n (by omega);obtain⟨b',aO,e,_,V,C,W⟩:=(aG.below hb).at n (by omega);simp only[Option.some.injEq,Addr.mk.injEq,and_true]at e;obtain⟨rfl,rfl⟩:=e;have HL:Hid (z5F zs=(zs.getD n z0d).key):=by
    show _=_;unfold z5F;rw[hn,Nat.add_sub_cancel]
   generalize (zs.getD n z0d).key=kk at C HL;have ao:=fun w h=>z2i nb nc d kk w h (by omega)
   have HE:Hid ((z0t xs zs).1=0∧runR xs zs=d∧runV xs zs=valI d kk):=by
    have hh:=HC.out;refine⟨by rw[hh],?_,?_⟩
    ·unfold runR;rw[hh];exact if_pos rfl
    ·unfold runV;rw[hh,HL.out];exact if_pos rfl
   generalize valI d kk=vv at ao HE;replace B0:=B0.below hb;have ax:Below w.heap.size w wr:=O.trans (hb.mono ad);have aN:=B0.lt;have aa:Nonempty (LatB w.heap.size wr):=⟨⟨wr,Below.refl _ _⟩⟩
   have aF:(zs.length:Int)-1=(n:Int):=by omega
   have aP:n<zs.length:=by omega
   clear hn;have k0:=z6y C Z;have k1:=z6y d3 aH;have hW:Below w.heap.size wr wr.drew:=(Below.refl _ _).drew;have ah:Below w.heap.size wr (wr.drew.alloc (.cells #[] 119)):=hW.alloc (by show w.heap.size≤wr.heap.size;omega) _;have U:Below wr.heap.size wr (wr.drew.alloc (.cells #[] 119)):=((Below.refl _ _).drew).alloc (Nat.le_refl _) _;clear V W C HC HG HL c3
   go_wp2_with fail
   clear d3;refine z0e (S:=fun w'=>∃u:LatB w.heap.size wr,w'=u.val) (by kernel_rfl) ?_;refine sgr [(0,9)] 11 (by kernel_rfl) ⟨⟨_,hW⟩,rfl⟩ ?_;simp only[pkE];repeat go_big_quiet_step (fail)
   refine wpQuiet_nil ?_;refine qta 9 (some 46) (.int .i64 zs.length) 10 (by kernel_rfl) (fun u _=>by kernel_rfl) ⟨⟨_,hW⟩,rfl⟩ ?_;simp only[Act.put,pgE,pjE];refine sgr [(10,4),(16,1)] 5 (by kernel_rfl) ⟨⟨_,hW⟩,rfl⟩ ?_;simp only[pkE];repeat go_big_quiet_step (fail)
   refine wpQuiet_nil ?_;clear k0 k1 aF;refine twa 14 15 4 (by kernel_rfl) ?_ ?_
   ·refine opc 14 (some 51) 230 #[.slice nb d.length nc,.int .i64 kk] (by kernel_rfl) ?_;refine(ao _ (hR.below ((Below.refl _ _).drew))).mono ?_;rintro e w' ⟨rfl,hw⟩;subst hw;refine⟨_,rfl,⟨⟨_,hW⟩,rfl⟩,?_⟩;simp only[Act.put,pgE,pjE];refine ona 15 3 rfl (by kernel_rfl) ?_
    go_wp2
    refine ThenGo.to ⟨⟨⟨_,ah⟩,rfl⟩,?_⟩;have I:=World.ownsRow_lit (size:=2) (e:=119) wr.drew #[] 0 (Nat.le_refl _) (by decide) rfl;change(wr.drew.alloc (.cells #[] 119)).ownsRow wr.heap.size _ _ (.slice (some ⟨wr.heap.size,0,none⟩) 0 0) 0 []at I;refine ona 17 2 rfl (by kernel_rfl) ?_;refine z0B _ rfl _ _ rfl wr.heap.size wr.heap.size rfl I nb d nc rfl (hR.below U) af (by omega) (by simp) ?_;intro a7 c7 w7 y ai;have N:Below wr.heap.size wr w7:=U.trans ai;have z:Below w.heap.size wr w7:=N.mono (by omega);clear I
    go_wp2
    refine ThenGo.to ⟨⟨⟨_,z⟩,rfl⟩,?_⟩;simp only[Act.put,pgE,pjE];refine sgr [(18,1)] 1 (by kernel_rfl) ⟨⟨_,z⟩,rfl⟩ ?_;simp only[pkE];repeat go_big_quiet_step (fail)
    refine wpQuiet_nil ?_;refine ona 19 0 rfl (by kernel_rfl) ?_;replace B0:=B0.below N;obtain⟨p0,p1,p2⟩:=B0.cel3;obtain⟨f0,f1,f2⟩:=B0.frz3;have aK:=B0.lt;have al:Below w.heap.size w w7:=ax.trans z;have ag:=((z.setCell (p:=⟨w.heap.size,0,none⟩) (Nat.le_refl _) (.int .i64 0)).setCell (p:=⟨w.heap.size,1,none⟩) (Nat.le_refl _) (.int .i64 vv)).setCell (p:=⟨w.heap.size,2,none⟩) (Nat.le_refl _) (.slice a7 d.length c7);clear B0 aa
    go_wp2
    refine ThenGo.to ⟨⟨⟨_,ag⟩,rfl⟩,?_⟩;refine z0i (by kernel_rfl) ?_
    go_wp2
    refine bodyPost_ret (v:=.agg #[.int .i64 0,.int .i64 vv,.slice a7 d.length c7]) (by simp[results,Tryz.results177,go_sem,p0,p1,p2]) rfl ?_;rw[HE.out.1,HE.out.2.1,HE.out.2.2];refine⟨_,_,rfl,?_,?_⟩
    ·refine z0o (base:=wr.heap.size) ?_ (by omega);repeat' (refine ownsRow_setCell_below ?_ (by dsimp only;omega) _)
     exact y
    ·repeat' (refine Below.setCell ?_ (by dsimp only;omega) _)
     exact al
   ·refine z1c 15 _ rfl ?_
    go_wp2
    refine ThenGo.to ⟨⟨⟨_,ah⟩,rfl⟩,?_⟩;refine cla 14 (some 51) 230 #[.slice nb d.length nc,.int .i64 kk] 3 (by kernel_rfl) ?_;refine(ao _ (hR.below U)).mono ?_;rintro e w' ⟨rfl,hw⟩;subst hw;refine⟨_,rfl,⟨⟨_,ah⟩,rfl⟩,?_⟩;simp only[Act.put,pgE,pjE];have I:=World.ownsRow_lit (size:=2) (e:=119) wr.drew #[] 0 (Nat.le_refl _) (by decide) rfl;change(wr.drew.alloc (.cells #[] 119)).ownsRow wr.heap.size _ _ (.slice (some ⟨wr.heap.size,0,none⟩) 0 0) 0 []at I;refine ona 17 2 rfl (by kernel_rfl) ?_;refine z0B _ rfl _ _ rfl wr.heap.size wr.heap.size rfl I nb d nc rfl (hR.below U) af (by omega) (by simp) ?_;intro a7 c7 w7 y ai;have N:Below wr.heap.size wr w7:=U.trans ai;have z:Below w.heap.size wr w7:=N.mono (by omega);clear I
    go_wp2
    refine ThenGo.to ⟨⟨⟨_,z⟩,rfl⟩,?_⟩;simp only[Act.put,pgE,pjE];refine sgr [(18,1)] 1 (by kernel_rfl) ⟨⟨_,z⟩,rfl⟩ ?_;simp only[pkE];repeat go_big_quiet_step (fail)
    refine wpQuiet_nil ?_;refine ona 19 0 rfl (by kernel_rfl) ?_;replace B0:=B0.below N;obtain⟨p0,p1,p2⟩:=B0.cel3;obtain⟨f0,f1,f2⟩:=B0.frz3;have aK:=B0.lt;have al:Below w.heap.size w w7:=ax.trans z;have ag:=((z.setCell (p:=⟨w.heap.size,0,none⟩) (Nat.le_refl _) (.int .i64 0)).setCell (p:=⟨w.heap.size,1,none⟩) (Nat.le_refl _) (.int .i64 vv)).setCell (p:=⟨w.heap.size,2,none⟩) (Nat.le_refl _) (.slice a7 d.length c7);clear B0 aa
    go_wp2
    refine ThenGo.to ⟨⟨⟨_,ag⟩,rfl⟩,?_⟩;refine z0i (by kernel_rfl) ?_
    go_wp2
    refine bodyPost_ret (v:=.agg #[.int .i64 0,.int .i64 vv,.slice a7 d.length c7]) (by simp[results,Tryz.results177,go_sem,p0,p1,p2]) rfl ?_;rw[HE.out.1,HE.out.2.1,HE.out.2.2];refine⟨_,_,rfl,?_,?_⟩
    ·refine z0o (base:=wr.heap.size) ?_ (by omega);repeat' (refine ownsRow_setCell_below ?_ (by dsimp only;omega) _)
     exact y
    ·repeat' (refine Below.setCell ?_ (by dsimp only;omega) _)
     exact al
end
section
variable {ops:Array Oper} {rest:List Oper} {o:Oper} {a:Act} {Q:Exit→Act→World→Prop}
theorem z1d{P:Type}{K:Kind P}(w:World)(y:o.guard=none)(s x:Operand)(t:TypeId)(ho:o.op=.call {callee:=.builtin .append,args:=#[s,x],argTypes:=#[t,t]})
  (i0:TypeInfo) (z:Value) (d:Nat) (ht:Tryz.prog.underlying t=some (.slice K.ty)) (hi:Tryz.prog.info? K.ty=some i0) (C:i0.zero=some z) (I:i0.size=K.size) (J:i0.bytes=d) (L:z.cells.size=K.size) (A:0<K.size)
  (B:Nat) (v:Value) (rs:List P) (hs:a.eval s=v) (c:w.ownsRow B K.ty K.size v rs.length (K.row rs)) (sa:Option Addr) (xs:List P) (sc:Nat) (hx:a.eval x=.slice sa xs.length sc) (hr:Lies w sa (K.row xs)) (h1:∀u∈K.row xs,u.oneCell'=true) (hN:z6a sa xs.length sc)
  (hm:rs.length+xs.length≤maxLen) (hb:(rs.length+xs.length)*d≤140737488355328) (hB:B≤w.heap.size)
  (h:∀v' w',w'.ownsRow B K.ty K.size v' (rs++xs).length (K.row (rs++xs))→w.grownBy w' v.ownBlock→wpList Tryz.prog ops Q rest (a.put o.dst v') w'):wpList Tryz.prog ops Q (o::rest) a w:=by
 have e:K.row (rs++xs)=K.row rs++K.row xs:=by simp[Kind.row]
 rw[e,List.length_append]at h;rcases hN with⟨ad,rfl⟩|⟨rfl,hn,rfl⟩
 ·exact wpList_append_own w y s x t ho B K.ty i0 z K.size d ht hi C I J L A v rs.length (K.row rs) hs c ad xs.length sc (K.row xs) hx (Kind.row_length xs) (z3M hr) h1 hm hb hB (fun v' w' h2 h3 _=>h v' w' h2 h3)
 ·have hz:xs=[]:=List.eq_nil_of_length_eq_zero hn;subst hz;refine wpList_append_own_none y s x t ho B K.ty i0 K.size ht hi v rs.length (K.row rs) hs c hx ?_;exact h _ _ (by simpa[Kind.row]using c) (World.grownBy.refl _ _)
end
def z4c(v:Value):Prop:=∀a n c,v=.slice a n c→z6a a n c
theorem Kind.Own.niceV{P:Type}{K:Kind P}{w:World}{v:Value}{ps:List P}(h:K.Own w v ps):z4c v:=by
 intro a n c e;rcases h.1.2 with⟨h1,_⟩|⟨g,cap,cur,h1,_⟩
 ·rw[h1]at e;simp only[Value.slice.injEq]at e;obtain⟨rfl,rfl,rfl⟩:=e;exact Or.inr ⟨rfl,rfl,rfl⟩
 ·rw[h1]at e;simp only[Value.slice.injEq]at e;obtain⟨rfl,_,_⟩:=e;exact Or.inl ⟨_,rfl⟩
theorem z7q{w:World}{ps:List TxnQ}(h:∀p∈ps,txnK.rd w p):∀u∈txnK.row ps,u.oneCell'=true:=by
 intro u hu;obtain⟨p,hp,hu⟩:=List.mem_flatMap.1 hu;have hr:actK.At w p.va p.acts:=h p hp;obtain⟨a,c,e⟩:=hr.shape;have hu:u∈[Value.int .i64 p.i,.int .i64 p.s,.int .i64 p.q,p.va]:=hu;rw[e]at hu;simp only[List.mem_cons,List.not_mem_nil,or_false]at hu;rcases hu with rfl|rfl|rfl|rfl<;>rfl
theorem q2l(n:Nat)(w:World)(hn:n≤1000):
  Calls Tryz.prog 163 #[.slice none 0 0,.int .i64 n] w fun e w'=>∃v,e=.returned v∧w'.ownsRow w.heap.size 39 4 v 0 []∧Below w.heap.size w w':=by
 obtain⟨i0,hi,hz0,hz1,hz2⟩:=info_parts z1p;by_cases h0:n=0
 ·subst h0;go_enter Tryz.func163,Tryz.ntmps163
  go_wp2
  go_ret;exact⟨_,rfl,World.ownsRow_nil _ _ _ _,Below.refl _ _⟩
 ·have hap:=Lib.run_append_nil_zeros (P:=Tryz.prog) w 25 3 25 39 i0 (.agg #[.int .i64 0,.int .i64 0,.int .i64 0,.slice none 0 0]) .i64 .i64 Tryz.underlying25 Tryz.underlying3 hi hz0 n (by omega) (by rw[hz1];decide) (by omega) (by rw[hz2];omega);have hge:=grownCap_ge w n 0 39;have hle:=grownCap_le_maxLen w n 0 39 (by unfold maxLen;omega);generalize grownCap w n 0 39=cp at*;have hsz:(Builtin.zeroCells (Value.agg #[.int .i64 0,.int .i64 0,.int .i64 0,.slice none 0 0]).cells n++Builtin.zeroCells (Value.agg #[.int .i64 0,.int .i64 0,.int .i64 0,.slice none 0 0]).cells (cp-n)).size=cp*4:=by
   rw[Array.size_append,size_zeroCells,size_zeroCells];show n*4+(cp-n)*4=cp*4;omega
  have ho:=World.ownsRow_made (base:=w.heap.size) (e:=39) (size:=4) w.drew _ cp (by simp) hle hsz;have hB:Below w.heap.size w (w.drew.alloc (.cells (Builtin.zeroCells (Value.agg #[.int .i64 0,.int .i64 0,.int .i64 0,.slice none 0 0]).cells n++Builtin.zeroCells (Value.agg #[.int .i64 0,.int .i64 0,.int .i64 0,.slice none 0 0]).cells (cp-n)) 39)):=by go_grown
  generalize (Builtin.zeroCells (Value.agg #[.int .i64 0,.int .i64 0,.int .i64 0,.slice none 0 0]).cells n++Builtin.zeroCells (Value.agg #[.int .i64 0,.int .i64 0,.int .i64 0,.slice none 0 0]).cells (cp-n))=cz at*;have hni:(0:Int)<(n:Int):=by omega
  have hcpi:(0:Int)≤(cp:Int):=by omega
  go_enter Tryz.func163,Tryz.ntmps163
  go_wp2_with (at_builtin;refine Lib.wpList_append_run _ rfl _ _ _ _ rfl _ _ rfl rfl _ _ hap ?_)
  go_wp2
  go_ret;exact⟨_,rfl,ho,hB⟩
theorem z9r(b cp:Nat)(v1 v2:Value)(ps qs:List TxnQ)(w:World)(hb:b<w.heap.size)(k0:w.cell? ⟨b,0,none⟩=some v1)(k1:w.cell? ⟨b,1,none⟩=some v2)(h1:txnK.At w v1 ps)(h2:txnK.At w v2 qs)(n1:z4c v1)(n2:z4c v2)(hl:ps.length+qs.length≤1000):
  Calls Tryz.prog 105 #[.slice (some ⟨b,0,none⟩) 2 cp] w fun e w'=>∃v,e=.returned v∧w'.ownsRow w.heap.size 39 4 v (ps++qs).length (txnK.row (ps++qs))∧Below w.heap.size w w':=by
 obtain⟨i0,hi,C,I,J⟩:=info_parts z1p;obtain⟨a1,c1,rfl⟩:=h1.shape;obtain⟨a2,c2,rfl⟩:=h2.shape;have m1:=n1 _ _ _ rfl;have m2:=n2 _ _ _ rfl;clear n1 n2;have N:(ps.length:Int)≤1000:=by omega
 have O:(qs.length:Int)≤1000:=by omega
 have A:((ps.length+qs.length:Nat):Int)=(ps.length:Int)+(qs.length:Int):=by omega
 go_enter Tryz.func105,Tryz.ntmps105
 go_wp2
 go_loopw[3,11] (fun s i wr=>∃k:Nat,k≤2∧i=.int .i64 k∧s=.int .i64 (if k=0 then 0 else if k=1 then(ps.length:Int)else(ps.length:Int)+(qs.length:Int))∧wr=w) (fun _ i _=>2-(intOf i).toNat)
 case atStart=>exact⟨0,by omega,rfl,rfl,rfl⟩
 case round=>
  obtain⟨k,hk,rfl,rfl,rfl⟩:=hrel;obtain rfl|rfl|rfl:k=0∨k=1∨k=2:=by omega
  ·go_wp2
   go_roundw
   case rel=>exact⟨1,by omega,by go_num,by first|rfl|(congr 1;simp)|simp,by trivial⟩
   case measure=>simp[intOf]
  ·go_wp2
   go_roundw
   case rel=>exact⟨2,by omega,by go_num,by first|rfl|(congr 1;simp)|simp,by trivial⟩
   case measure=>simp[intOf]
  ·obtain⟨U,rfl⟩:∃U,U=wr:=⟨_,rfl⟩
   have hg:=q2l (ps.length+qs.length) U (by omega);rw[A]at hg;simp only[show¬(2=0) by decide,show¬(2=1) by decide,if_false]
   go_wp2_with fail
   refine hg.mono ?_;rintro e w2 ⟨v,rfl,ho,hB⟩;obtain⟨sa,sc,rfl⟩:=z0g ho;clear hg
   go_wp2
   go_loopw[6,27] (fun s i wx=>∃ (k:Nat) (rs:List TxnQ),k≤2∧i=.int .i64 k∧Hid (rs=if k=0 then []else if k=1 then ps else ps++qs)∧wx.ownsRow U.heap.size 39 4 s rs.length (txnK.row rs)∧Below U.heap.size U wx) (fun _ i _=>2-(intOf i).toNat)
   case atStart=>exact⟨0,[],by omega,rfl,(rfl:_=_),ho,hB⟩
   case round=>
    clear ho hB;obtain⟨k,rs,hk,rfl,HR,ho,hB⟩:=hrel;obtain⟨sa,sc,rfl⟩:=z0g ho;have g1:=(h1.below hB)
    have g2:=(h2.below hB)
    obtain⟨_,_,e1,l1,r1⟩:=g1;obtain⟨_,_,e2,l2,r2⟩:=g2;simp only[Value.slice.injEq,true_and]at e1 e2;obtain⟨rfl,rfl⟩:=e1;obtain⟨rfl,rfl⟩:=e2;have o1:=z7q r1;have o2:=z7q r2;have d0:=(hB.cell (p:=⟨b,0,none⟩) hb).trans k0;have d1:=(hB.cell (p:=⟨b,1,none⟩) hb).trans k1;have y:=hB.size;obtain rfl|rfl|rfl:k=0∨k=1∨k=2:=by omega
    ·have x:rs=[]:=HR.out;subst x;have x1:([]:List TxnQ).length+ps.length≤maxLen:=by unfold maxLen;rw[List.length_nil];omega
     have x2:(([]:List TxnQ).length+ps.length)*48≤140737488355328:=by rw[List.length_nil];omega
     go_wp2_with (at_builtin;refine z1d (K:=txnK) _ rfl _ _ 25 rfl i0 (.agg #[.int .i64 0,.int .i64 0,.int .i64 0,.slice none 0 0]) 48 Tryz.underlying25 hi C I J rfl (by decide) U.heap.size _ [] rfl ho _ ps _ rfl l1 o1 m1 x1 x2 y ?_)
     intro v' w5 c d;have z:Below U.heap.size U w5:=hB.grown d (by omega) (fun k hk=>(ho.lt k hk).1);obtain⟨L,M,rfl⟩:=z0g c;clear d0 d1 l1 l2 o1 o2 r1 r2 ho d hB HR;try simp only[List.nil_append]at c⊢
     go_wp2
     go_roundw
     case rel=>exact⟨1,ps,by omega,by go_num,(rfl:_=_),(by first|exact c|(rw[List.length_append];exact c)|simpa using c),z⟩
     case measure=>simp[intOf]
    ·have x:rs=ps:=HR.out;subst x;have x1:rs.length+qs.length≤maxLen:=by unfold maxLen;omega
     have x2:(rs.length+qs.length)*48≤140737488355328:=by omega
     go_wp2_with (at_builtin;refine z1d (K:=txnK) _ rfl _ _ 25 rfl i0 (.agg #[.int .i64 0,.int .i64 0,.int .i64 0,.slice none 0 0]) 48 Tryz.underlying25 hi C I J rfl (by decide) U.heap.size _ rs rfl ho _ qs _ rfl l2 o2 m2 x1 x2 y ?_)
     intro v' w5 c d;have z:Below U.heap.size U w5:=hB.grown d (by omega) (fun k hk=>(ho.lt k hk).1);obtain⟨L,M,rfl⟩:=z0g c;clear d0 d1 l1 l2 o1 o2 r1 r2 ho d hB HR
     go_wp2
     go_roundw
     case rel=>exact⟨2,rs++qs,by omega,by go_num,(rfl:_=_),(by first|exact c|(rw[List.length_append];exact c)|simpa using c),z⟩
     case measure=>simp[intOf]
    ·have x:rs=ps++qs:=HR.out;subst x;clear d0 d1 l1 l2 o1 o2 r1 r2 HR
     go_wp2
     go_ret;exact⟨_,rfl,ho,hB⟩
end Go.Proofs.YtlkpdgjnhkjpjaaGreatDoor

/- Texts joined,with what the laws reach alone. -/
import Derived.Test.YtciofogeiohleaaGreatDoorCOAC
import Derived.Laws.Rows
import Derived.Laws.Tables
import Derived.Deep.MidRow
set_option linter.unusedVariables false
set_option linter.unusedSimpArgs false
set_option maxRecDepth 100000
set_option maxHeartbeats 4000000
namespace Go.Proofs.YtciofogeiohleaaGreatDoor
open Go.RowKit Go.BigFrame
abbrev iv(n:Int):Value:=.int .i64 n
def Wel(rs:List RoundE):Prop:=∀r∈rs,r.rep.length=3∧r.pro.length=3
def z02(r:RoundE):List Value:=(r.rep++r.pro).map iv
def z28(rs:List RoundE):List Value:=rs.flatMap z02
def rndC(rs:List RoundE):List Value:=iv rs.length::(z28 rs++List.replicate (24-6*rs.length) (iv 0))
def brdC(has:Bool)(vb:Value)(rs:List RoundE)(dec:List Int):List Value:=rndC rs++([.bool has,vb]++dec.map iv)
theorem z0S{r:RoundE}(h:r.rep.length=3∧r.pro.length=3):(z02 r).length=6:=by simp[z02,h.1,h.2]
theorem z2b{rs:List RoundE}(h:Wel rs):(z28 rs).length=rs.length*6:=by
 induction rs with
 |nil=>rfl
 |cons r t ih=>
  have h1:=ih (fun x hx=>h x (List.mem_cons_of_mem _ hx));have h2:=z0S (h r (by simp));simp only[z28,List.flatMap_cons,List.length_append,List.length_cons]at h1⊢;omega
theorem z0t{rs:List RoundE}(h:Wel rs)(h4:rs.length≤4):(rndC rs).length=25:=by
 have:=z2b h;simp only[rndC,List.length_cons,List.length_append,List.length_replicate];omega
theorem z2z{has:Bool}{vb:Value}{rs:List RoundE}{dec:List Int}(h:Wel rs)(h4:rs.length≤4)(hd:dec.length=3):(brdC has vb rs dec).length=30:=by
 have:=z0t h h4;simp only[brdC,List.length_append,List.length_cons,List.length_nil,List.length_map];omega
theorem z77{rs:List RoundE}(h:Wel rs)(r:Nat)(hr:r<rs.length)(j:Nat)(hj:j<6):(z28 rs)[r*6+j]?=(z02 (rs.getD r rnd0))[j]?:=by
 induction rs generalizing r with
 |nil=>simp at hr
 |cons q t ih=>
  have hq:=z0S (h q (by simp));simp only[z28,List.flatMap_cons]
  cases r with
  |zero=>
   rw[List.getElem?_append_left (by omega)];simp
  |succ r=>
   rw[List.getElem?_append_right (by omega),hq,show(r+1)*6+j-6=r*6+j by omega];have:=ih (fun x hx=>h x (List.mem_cons_of_mem _ hx)) r (by simpa using hr);simpa[z28]using this
theorem z1o{rs:List RoundE}(h:Wel rs)(r:Nat)(hr:r<rs.length):(rs.getD r rnd0).rep.length=3∧(rs.getD r rnd0).pro.length=3:=by
 have e:rs.getD r rnd0=rs[r]:=by simp[List.getD,hr]
 rw[e];exact h _ (List.getElem_mem hr)
theorem z9d{q:RoundE}(h:q.rep.length=3∧q.pro.length=3)(n:Nat)(hn:n<3):(z02 q)[n]?=some (iv (q.rep.getD n 0)):=by
 unfold z02;rw[List.getElem?_map,List.getElem?_append_left (by omega),List.getElem?_eq_getElem (by omega)];simp[List.getD,show n<q.rep.length by omega]
theorem z6W{q:RoundE}(h:q.rep.length=3∧q.pro.length=3)(n:Nat)(hn:n<3):(z02 q)[3+n]?=some (iv (q.pro.getD n 0)):=by
 unfold z02;rw[List.getElem?_map,List.getElem?_append_right (by omega),h.1,show 3+n-3=n by omega,List.getElem?_eq_getElem (by omega)];simp[List.getD,show n<q.pro.length by omega]
theorem z6o(rs:List RoundE):(rndC rs)[0]?=some (iv rs.length):=rfl
theorem z6X{rs:List RoundE}(h:Wel rs)(r:Nat)(hr:r<rs.length)(j:Nat)(hj:j<6):(rndC rs)[1+r*6+j]?=(z02 (rs.getD r rnd0))[j]?:=by
 have hl:=z2b h;unfold rndC;rw[show 1+r*6+j=(r*6+j)+1 by omega,List.getElem?_cons_succ,List.getElem?_append_left (by omega),z77 h r hr j hj]
theorem z6p{rs:List RoundE}(h:Wel rs)(r:Nat)(hr:r<rs.length)(n:Nat)(hn:n<3):(rndC rs)[1+r*6+n]?=some (iv (repA rs r n)):=by
 rw[z6X h r hr n (by omega),z9d (z1o h r hr) n hn];rfl
theorem z6q{rs:List RoundE}(h:Wel rs)(r:Nat)(hr:r<rs.length)(n:Nat)(hn:n<3):(rndC rs)[1+r*6+3+n]?=some (iv (proA rs r n)):=by
 rw[show 1+r*6+3+n=1+r*6+(3+n) by omega,z6X h r hr (3+n) (by omega),z6W (z1o h r hr) n hn];rfl
theorem z4f{has:Bool}{vb:Value}{rs:List RoundE}{dec:List Int}(h:Wel rs)(h4:rs.length≤4)(j:Nat)(hj:j<25):(brdC has vb rs dec)[j]?=(rndC rs)[j]?:=by
 have:=z0t h h4;unfold brdC;rw[List.getElem?_append_left (by omega)]
theorem z78{has:Bool}{vb:Value}{rs:List RoundE}{dec:List Int}(h:Wel rs)(h4:rs.length≤4):(brdC has vb rs dec)[25]?=some (.bool has):=by
 have:=z0t h h4;unfold brdC;rw[List.getElem?_append_right (by omega),this];rfl
theorem z6r{has:Bool}{vb:Value}{rs:List RoundE}{dec:List Int}(h:Wel rs)(h4:rs.length≤4)(hd:dec.length=3)(n:Nat)(hn:n<3):(brdC has vb rs dec)[27+n]?=some (iv (dec.getD n 0)):=by
 have:=z0t h h4;unfold brdC;rw[List.getElem?_append_right (by omega),this,show 27+n-25=n+2 by omega];simp[List.getD,show n<dec.length by omega]
theorem z2c:(Tryz.prog.info? 153).map (·.size)=some 25:=by kernel_rfl
theorem z2M:(Tryz.prog.info? 155).map (·.size)=some 30:=by kernel_rfl
theorem z1K:(Tryz.prog.info? 148).map (·.size)=some 3:=by kernel_rfl
theorem z6s:(Tryz.prog.info? 150).map (·.size)=some 6:=by kernel_rfl
theorem rng{w:World}{b o:Nat}{t:TypeId}{cs:Array Value}(hB:Blk w b t cs)(L:List Value)(h:∀j v,L[j]?=some v→cs[o+j]?=some v):w.rangeAt b o L:=fun j v hv=>hB.cell (o+j) v (h j v hv)
theorem q0T{w:World}{b o:Nat}(L:List Value)(ty:TypeId)(d:TypeDesc)(hr:w.rangeAt b o L)(hlt:b<w.heap.size)(hu:Tryz.prog.underlying ty=some d)(hd:d.isRow=true)(hi:(Tryz.prog.info? ty).map (·.size)=some L.length):
  ∀u:Lat w,(Instr.loadAt ty (.pointer (some ⟨b,o,none⟩))).run Tryz.prog u.val=.ok (.agg L.toArray) u.val:=fun u=>by
 refine run_loadAt_mid u.val b o ty L d (fun j v hv=>?_) hu hd hi;rw[u.isBelow.cell (p:=⟨b,o+j,none⟩) hlt];exact hr j v hv
section
variable {ops:Array Oper} {rest:List Oper} {op:Oper} {a:Act} {w:World} {Q:Exit→Act→World→Prop}
theorem z5b(hw:Region.wanted op (yielded ops a.tmps)=true)(ty:TypeId)(x:Operand)(ho:op.op=.load ty x)
  (b o:Nat) (hx:a.eval x=.pointer (some ⟨b,o,none⟩)) (cs:List Value) (d:TypeDesc) (hc:w.rangeAt b o cs)
  (hu:Tryz.prog.underlying ty=some d) (hd:d.isRow=true) (hi:(Tryz.prog.info? ty).map (·.size)=some cs.length)
  (h:wpList Tryz.prog ops Q rest (a.put op.dst (.agg cs.toArray)) w):wpList Tryz.prog ops Q (op::rest) a w:=by
 simp only[wpList];rw[if_pos hw];exact Or.inl (wp_load_mid ty x ho b o hx cs d hc hu hd hi h)
theorem st_g(hw:Region.wanted op (yielded ops a.tmps)=true)(ty:TypeId)(x y:Operand)(ho:op.op=.store ty x y)
  (b o:Nat) (cells:Array Value) (hx:a.eval x=.pointer (some ⟨b,o,none⟩)) (hy:a.eval y=.agg cells)
  (ht:w.there b o cells.size) (hi:(Tryz.prog.info? ty).map (·.size)=some cells.size) (h1:cells.all (·.oneCell')=true)
  (h:wpList Tryz.prog ops Q rest (a.put op.dst undef) (w.setCells b o cells.toList)):wpList Tryz.prog ops Q (op::rest) a w:=by
 simp only[wpList];rw[if_pos hw];exact Or.inl (wp_store_mid ty x y ho b o cells hx hy ht hi h1 h)
end
theorem z2A(rs:List RoundE)(r n:Nat)(w:World)(h:Wel rs)(h4:rs.length≤4)(hr:r<rs.length)(hn:n<3):
  Calls Tryz.prog 215 #[.agg (rndC rs).toArray,.int .i64 (r:Int),.int .i64 (n:Int)] w fun e w'=>e=.returned (.bool (proA rs r n !=3))∧Below w.heap.size w w':=by
 have hp:=z6q h r hr n hn;have hl:=z0t h h4;generalize proA rs r n=P at*;generalize rndC rs=cs at*;have hr4:(r:Int)<4:=by omega
 have hn3:(n:Int)<3:=by omega
 go_enter Tryz.func215,Tryz.ntmps215
 go_wp2
 go_ret;exact⟨rfl,by go_grown⟩
theorem z5c(rs:List RoundE)(r n:Nat)(w:World)(h:Wel rs)(h4:rs.length≤4)(hn:n<3):
  Calls Tryz.prog 217 #[.agg (rndC rs).toArray,.int .i64 (r:Int),.int .i64 (n:Int)] w fun e w'=>e=.returned (.bool (decide (r<rs.length) && (repA rs r n !=3)))∧Below w.heap.size w w':=by
 have hc:=z6o rs;have hn3:(n:Int)<3:=by omega
 by_cases hr:r<rs.length
 ·have hp:=z6p h r hr n hn;have hr4:(r:Int)<4:=by omega
  have hd:decide (r<rs.length)=true:=decide_eq_true hr;rw[hd,Bool.true_and];generalize repA rs r n=P at*;generalize rs.length=c at*;generalize rndC rs=cs at*;clear hd;go_enter Tryz.func217,Tryz.ntmps217
  go_wp2
  go_ret;exact⟨rfl,by go_grown⟩
 ·have hd:decide (r<rs.length)=false:=decide_eq_false hr;rw[hd,Bool.false_and];generalize rs.length=c at*;generalize rndC rs=cs at*;clear hd;go_enter Tryz.func217,Tryz.ntmps217
  go_wp2
  go_ret;exact⟨rfl,by go_grown⟩
theorem z79:(Tryz.prog.info? 2).map (fun i=>(i.zero,i.size,i.bytes))=some (some (.int .i64 0),1,8):=by kernel_rfl
theorem z4S(b r cap:Nat)(zs:List Int)(w:World)(h:Row .i64 w (some ⟨b,r,none⟩) zs)(h0:0<zs.length)(hl:zs.length≤1048576):
  Calls Tryz.prog 119 #[.slice (some ⟨b,r,none⟩) zs.length cap] w fun e w'=>∃a c,e=.returned (.slice a zs.length c)∧
   w'.ownsRow w.heap.size 2 1 (.slice a zs.length c) zs.length (zs.map iv)∧Below w.heap.size w w':=by
 obtain⟨i0,hi,y,A,C⟩:=info_parts z79;have hs:=z2H (Lies.below (z2w h) (w':=w.alloc (.cells #[] 2)) (by go_grown));have x:(zs.map iv).length=zs.length*1:=by simp
 have ho:=World.ownsRow_lit (e:=2) (size:=1) w #[] 0 (Nat.le_refl _) (by decide) rfl;have HS:Hid (∀j u,(zs.map iv)[j]?=some u→_):=hs;clear hs;have D:∀w,(binOp .eql 47 (.slice (some ⟨b,r,none⟩) zs.length cap) (.slice none 0 0)).run Tryz.prog w=.ok (.bool false) w:=fun w=>by first|rfl|kernel_rfl|(simp only[binOp];simp[Op.equal,Op.maxDepth,Op.equalIn,run_underlying Tryz.underlying47])
 go_enter Tryz.func119,Tryz.ntmps119
 go_wp2_with (at_builtin;refine wpList_append_own _ rfl _ _ 47 rfl w.heap.size 2 i0 (.int .i64 0) 1 8 Tryz.underlying47 hi y A C rfl (by decide) _ 0 [] rfl ho ⟨b,r,none⟩ zs.length cap (zs.map iv) rfl x HS.out ?c2 ?c3 ?c4 ?c5 ?_)
 all_goals try(case c2=>first|(intro u hu;obtain⟨z,_,rfl⟩:=List.mem_map.1 hu;rfl)|(intro u hu;rfl))
 all_goals try(case c3=>unfold maxLen;omega)
 all_goals try(case c4=>omega)
 all_goals try(case c5=>simp)
 intro v' w2 q d _;obtain⟨a2,c2,rfl⟩:=z0p q;have s:Below w.heap.size w w2:=((Below.refl _ _).alloc (Nat.le_refl _) _).grown d (by simp) (fun k hk=>by simp[Value.ownBlock]at hk;omega);try simp only[Nat.zero_add]at q
 clear d HS ho
 go_wp2
 go_ret;exact⟨a2,c2,rfl,by simpa using q,s⟩
theorem z3P{w':World}{base n c:Nat}{a:Option Addr}{zs:List Int}(hn:n=zs.length)(h:w'.ownsRow base 2 1 (.slice a n c) n (zs.map iv)):intK.Own w' (.slice a n c) zs∧(∀k∈intK.fp (.slice a n c) zs,base≤k):=by
 subst hn;obtain⟨o,hk⟩:=z04 h;refine⟨⟨by rw[z6R];exact o,fun _ _=>trivial⟩,?_⟩;rw[z71];exact hk
theorem z1V(zs:List Int)(w:World)(h3:zs.length=3):
  Calls Tryz.prog 154 #[.agg (zs.map iv).toArray] w fun e w'=>∃a c,e=.returned (.slice a 3 c)∧intK.Own w' (.slice a 3 c) zs∧(∀k∈intK.fp (.slice a 3 c) zs,w.heap.size≤k)∧Row .i64 w' a zs∧Below w.heap.size w w':=by
 have hB:Below w.heap.size w (w.alloc (.cells (zs.map iv).toArray 148)):=by go_grown
 have hR:Row .i64 (w.alloc (.cells (zs.map iv).toArray 148)) (some ⟨w.heap.size,0,none⟩) zs:=by
  intro i hi;refine⟨_,_,rfl,by simp,?_⟩;have:=(Blk.new w 148 (zs.map iv).toArray).cell i (iv (zs.getD i 0)) (by simp[List.getD,hi]);rw[Nat.zero_add];exact this
 have hcl:=z4S w.heap.size 0 3 zs _ hR (by omega) (by omega);rw[h3]at hcl;go_enter Tryz.func154,Tryz.ntmps154
 go_wp2_with fail
 refine hcl.mono ?_;rintro e w2 ⟨a,c,rfl,ho,hb⟩;obtain⟨O,G⟩:=z3P h3.symm ho;have hRR:=Row.own ho;have G2:Hid (∀k∈intK.fp (.slice a 3 c) zs,w.heap.size≤k):=fun k hk=>Nat.le_trans (by simp) (G k hk)
 replace hB:=hB.trans (hb.mono hB.size);clear hcl ho hb G
 go_wp2
 go_ret;exact⟨a,c,rfl,O,G2.out,hRR,hB⟩
section
variable {has:Bool} {vb:Value} {rs:List RoundE} {dec:List Int} {w:World} {b:Nat} {t:TypeId}
theorem z29 (h:Wel rs) (h4:rs.length≤4) (hB:Blk w b t (brdC has vb rs dec).toArray):w.rangeAt b 0 (rndC rs):=rng hB _ (fun j v hv=>by
 have hj:=(List.getElem?_eq_some_iff.1 hv).1;rw[z0t h h4]at hj;rw[Nat.zero_add,List.getElem?_toArray,z4f h h4 j hj];exact hv)
theorem row_get{zs:List Int}(hl:zs.length=3){j:Nat}{v:Value}(hv:(zs.map iv)[j]?=some v):j<3∧v=iv (zs.getD j 0):=by
 have hj:j<zs.length:=by have:=(List.getElem?_eq_some_iff.1 hv).1;simpa using this
 refine⟨by omega,?_⟩;rw[List.getElem?_map,List.getElem?_eq_getElem hj]at hv;simp only[Option.map_some,Option.some.injEq]at hv;rw[←hv];simp[List.getD,hj]
theorem z9e(h:Wel rs)(r:Nat)(hr:r<rs.length):∀j v,((rs.getD r rnd0).pro.map iv)[j]?=some v→(rndC rs)[1+r*6+3+j]?=some v:=by
 intro j v hv;obtain⟨hj,rfl⟩:=row_get (z1o h r hr).2 hv;exact z6q h r hr j hj
theorem z9f(h:Wel rs)(r:Nat)(hr:r<rs.length):∀j v,((rs.getD r rnd0).rep.map iv)[j]?=some v→(rndC rs)[1+r*6+j]?=some v:=by
 intro j v hv;obtain⟨hj,rfl⟩:=row_get (z1o h r hr).1 hv;exact z6p h r hr j hj
theorem z6Y (h:Wel rs) (h4:rs.length≤4) (r:Nat) (hr:r < rs.length) (hB:Blk w b t (brdC has vb rs dec).toArray):w.rangeAt b (1 + r * 6 + 3) ((rs.getD r rnd0).pro.map iv):=rng hB _ (fun j v hv=>by
 have h1:=z9e h r hr j v hv;have hj:=(List.getElem?_eq_some_iff.1 h1).1;rw[z0t h h4]at hj;rw[List.getElem?_toArray,z4f h h4 _ hj];exact h1)
end
theorem z3a(has:Bool)(vb:Value)(rs:List RoundE)(dec:List Int)(r n:Nat)(w:World)(hG:Rul w)(h:Wel rs)(h4:rs.length≤4)(hd:dec.length=3)(hr:r<rs.length)(hn:n<3):
  Calls Tryz.prog 197 #[.agg (brdC has vb rs dec).toArray,.int .i64 (r:Int),.int .i64 (n:Int)] w fun e w'=>e=.returned (.bool (repI has rs r n))∧Below w.heap.size w w':=by
 have hB:=Blk.new w 155 (brdC has vb rs dec).toArray;have C:Below w.heap.size w (w.alloc (.cells (brdC has vb rs dec).toArray 155)):=by go_grown
 have c1:(brdC has vb rs dec)[1+r*6+n]?=some (iv (repA rs r n)):=by
  have h1:=z6p h r hr n hn;rw[z4f h h4 _ (by omega)];exact h1
 have c2:=z78 (has:=has) (vb:=vb) (dec:=dec) h h4;generalize hE:repI has rs r n=E;have HE:Hid (E=if repA rs r n=1∧has=false then false else if repA rs r n=3∨r=0 then true else z7M rs r n):=hE.symm;clear hE;have ak:(r:Int)<4:=by omega
 have aj:(n:Int)<3:=by omega
 by_cases h1:repA rs r n=1
 ·cases has with
  |false=>
   have E2:Hid (E=false):=by rw[HE.out,if_pos ⟨h1,rfl⟩];rfl
   rw[h1]at c1;clear HE hB h1;generalize brdC false vb rs dec=cs at*;go_enter Tryz.func197,Tryz.ntmps197
   go_wp2
   go_ret;exact⟨by rw[E2.out];rfl,C⟩
  |true=>
   have c:Hid (E=if repA rs r n=3∨r=0 then true else z7M rs r n):=by
    have:=HE.out;rw[if_neg (by simp)]at this;exact this
   rw[h1]at c1;obtain⟨R,z⟩:∃R:Int,R=1:=⟨1,rfl⟩
   have d:Hid (R=repA rs r n):=z.trans h1.symm;have af:(R==3)=false:=by rw[z];rfl
   have ai:(R==1)=true:=by rw[z];rfl
   rw[←z]at c1;have N:¬R=3:=by omega
   clear HE h1 z;by_cases aa:r=0
   ·have E2:Hid (E=true):=by rw[c.out,if_pos (Or.inr aa)];rfl
    subst aa;simp only[Nat.zero_mul,Nat.add_zero,Nat.zero_add]at c1;clear c d;generalize brdC true vb rs dec=cs at*;go_enter Tryz.func197,Tryz.ntmps197
    go_wp2
    go_ret;exact⟨by rw[E2.out];rfl,C⟩
   ·obtain⟨s,rfl⟩:∃s,r=s+1:=⟨r-1,by omega⟩
    have HS:Hid (E=((proA rs s n !=3) && mayR (rs.getD s rnd0).pro R)):=by rw[c.out,if_neg (by rw[←d.out];omega),d.out];exact(rfl:_=_)
    have hs:s<rs.length:=by omega
    have X:=fun w=>z2A rs s n w h h4 hs hn
    have ab:=z29 h h4 hB;have G:(Tryz.prog.info? 153).map (·.size)=some (rndC rs).length:=by rw[z0t h h4];exact z2c
    have ad:=z1o h s hs;have L:=z1V (rs.getD s rnd0).pro;have V:=hB.lt;have ah:¬((s:Int)+1=0):=by omega
    have q:=z6Y h h4 s hs hB;have x:(Tryz.prog.info? 148).map (·.size)=some ((rs.getD s rnd0).pro.map iv).length:=by rw[List.length_map,ad.2];exact z1K
    have Z:=ad.2;clear c d;generalize (rs.getD s rnd0).pro=qp at*;generalize proA rs s n=A at*;generalize rndC rs=ds at*;go_enter Tryz.func197,Tryz.ntmps197;generalize brdC true vb rs dec=cs at*
    go_wp2_with (refine z5b (by kernel_rfl) 153 _ rfl _ _ rfl ds _ ab Tryz.underlying153 rfl G ?_)
    clear ab G;generalize w.alloc (.cells cs.toArray 155)=W at*;refine(X W).mono ?_;rintro e w1 ⟨rfl,O⟩;have I:=C.trans (O.mono C.size);clear X;by_cases hA:A=3
    ·have E2:Hid (E=false):=by rw[HS.out,hA];rfl
     have y:(A !=3)=false:=by simp[hA]
     rw[y];clear HS L q x hA
     go_wp2
     go_ret;exact⟨by rw[E2.out];rfl,I⟩
    ·have y:(A !=3)=true:=by simpa using hA
     rw[y]at HS;rw[y];have ag:=V;have D:w1.rangeAt w.heap.size (1+s*6+3) (qp.map iv):=fun j v hv=>by rw[O.cell (p:=⟨w.heap.size,1+s*6+3+j,none⟩) V];exact q j v hv
     clear q hA
     go_wp2_with (refine z5b (by kernel_rfl) 148 _ rfl _ _ rfl (qp.map iv) _ D Tryz.underlying148 rfl x ?_)
     clear D x;refine(L w1 Z).mono ?_;rintro e w2 ⟨la,lc,rfl,lO,lG,lR,T⟩;have J:=I.trans (T.mono I.size);have M:=z3w la lc qp R w2 (hG.below J) lR (by omega);rw[Z]at M;generalize mayR qp R=Y at*;clear L lO lG T
     go_wp2_with fail
     refine M.mono ?_;rintro e w3 ⟨rfl,U⟩;have ae:=J.trans (U.mono J.size);clear M U;have E2:Hid (E=Y):=by rw[HS.out];exact(rfl:_=_)
     clear HS
     go_wp2
     go_ret;exact⟨by rw[E2.out];rfl,ae⟩
 ·have c:Hid (E=if repA rs r n=3∨r=0 then true else z7M rs r n):=by
   have:=HE.out;rw[if_neg (fun e=>h1 e.1)]at this;exact this
  generalize z:repA rs r n=R at c1 h1;have d:Hid (R=repA rs r n):=z.symm;have ai:(R==1)=false:=by simpa using h1
  clear HE h1 z;by_cases N:R=3
  ·have E2:Hid (E=true):=by rw[c.out,if_pos (Or.inl (by rw[←d.out];exact N))];rfl
   have af:(R==3)=true:=by simp[N]
   clear c d N;generalize brdC has vb rs dec=cs at*;go_enter Tryz.func197,Tryz.ntmps197
   go_wp2
   go_ret;exact⟨by rw[E2.out];rfl,C⟩
  ·have af:(R==3)=false:=by simpa using N
   by_cases aa:r=0
   ·have E2:Hid (E=true):=by rw[c.out,if_pos (Or.inr aa)];rfl
    subst aa;simp only[Nat.zero_mul,Nat.add_zero,Nat.zero_add]at c1;clear c d;generalize brdC has vb rs dec=cs at*;go_enter Tryz.func197,Tryz.ntmps197
    go_wp2
    go_ret;exact⟨by rw[E2.out];rfl,C⟩
   ·obtain⟨s,rfl⟩:∃s,r=s+1:=⟨r-1,by omega⟩
    have HS:Hid (E=((proA rs s n !=3) && mayR (rs.getD s rnd0).pro R)):=by rw[c.out,if_neg (by rw[←d.out];omega),d.out];exact(rfl:_=_)
    have hs:s<rs.length:=by omega
    have X:=fun w=>z2A rs s n w h h4 hs hn
    have ab:=z29 h h4 hB;have G:(Tryz.prog.info? 153).map (·.size)=some (rndC rs).length:=by rw[z0t h h4];exact z2c
    have ad:=z1o h s hs;have L:=z1V (rs.getD s rnd0).pro;have V:=hB.lt;have ah:¬((s:Int)+1=0):=by omega
    have q:=z6Y h h4 s hs hB;have x:(Tryz.prog.info? 148).map (·.size)=some ((rs.getD s rnd0).pro.map iv).length:=by rw[List.length_map,ad.2];exact z1K
    have Z:=ad.2;clear c d;generalize (rs.getD s rnd0).pro=qp at*;generalize proA rs s n=A at*;generalize rndC rs=ds at*;go_enter Tryz.func197,Tryz.ntmps197;generalize brdC has vb rs dec=cs at*
    go_wp2_with (refine z5b (by kernel_rfl) 153 _ rfl _ _ rfl ds _ ab Tryz.underlying153 rfl G ?_)
    clear ab G;generalize w.alloc (.cells cs.toArray 155)=W at*;refine(X W).mono ?_;rintro e w1 ⟨rfl,O⟩;have I:=C.trans (O.mono C.size);clear X;by_cases hA:A=3
    ·have E2:Hid (E=false):=by rw[HS.out,hA];rfl
     have y:(A !=3)=false:=by simp[hA]
     rw[y];clear HS L q x hA
     go_wp2
     go_ret;exact⟨by rw[E2.out];rfl,I⟩
    ·have y:(A !=3)=true:=by simpa using hA
     rw[y]at HS;rw[y];have ag:=V;have D:w1.rangeAt w.heap.size (1+s*6+3) (qp.map iv):=fun j v hv=>by rw[O.cell (p:=⟨w.heap.size,1+s*6+3+j,none⟩) V];exact q j v hv
     clear q hA
     go_wp2_with (refine z5b (by kernel_rfl) 148 _ rfl _ _ rfl (qp.map iv) _ D Tryz.underlying148 rfl x ?_)
     clear D x;refine(L w1 Z).mono ?_;rintro e w2 ⟨la,lc,rfl,lO,lG,lR,T⟩;have J:=I.trans (T.mono I.size);have M:=z3w la lc qp R w2 (hG.below J) lR (by omega);rw[Z]at M;generalize mayR qp R=Y at*;clear L lO lG T
     go_wp2_with fail
     refine M.mono ?_;rintro e w3 ⟨rfl,U⟩;have ae:=J.trans (U.mono J.size);clear M U;have E2:Hid (E=Y):=by rw[HS.out];exact(rfl:_=_)
     clear HS
     go_wp2
     go_ret;exact⟨by rw[E2.out];rfl,ae⟩
theorem z4g(rs:List RoundE)(r n:Nat)(w:World)(hG:Rul w)(h:Wel rs)(h4:rs.length≤4)(hr:r<rs.length)(hn:n<3):
  Calls Tryz.prog 198 #[.agg (rndC rs).toArray,.int .i64 (r:Int),.int .i64 (n:Int)] w fun e w'=>e=.returned (.bool (proR rs r n))∧Below w.heap.size w w':=by
 have B:=Blk.new w 153 (rndC rs).toArray;have d:Below w.heap.size w (w.alloc (.cells (rndC rs).toArray 153)):=by go_grown
 have O:=z1o h r hr;have J:=O.1;have s:=fun w=>z2A rs r n w h h4 hr hn
 have q:=fun w=>z5c rs r n w h h4 hn
 rw[decide_eq_true hr]at q;simp only[Bool.true_and]at q;have C:=z1V (rs.getD r rnd0).rep;have z:=fun la lc w hG hR=>z5J la lc (rs.getD r rnd0).rep (proA rs r n) w hG hR (by omega)
 rw[J]at z;have L:=B.lt;have y:=q0T (rndC rs) 153 _ (rng B (rndC rs) (o:=0) (fun j v hv=>by rw[Nat.zero_add,List.getElem?_toArray];exact hv)) L Tryz.underlying153 rfl (by rw[z0t h h4];exact z2c);have D:=q0T ((rs.getD r rnd0).rep.map iv) 148 _ (rng B _ (o:=1+r*6) (fun j v hv=>by rw[List.getElem?_toArray];exact z9f h r hr j v hv)) L Tryz.underlying148 rfl (by rw[List.length_map,J];exact z1K);have cp:=z0a (B.cell (1+r*6+3+n) (iv (proA rs r n)) (by rw[List.getElem?_toArray];exact z6q h r hr n hn));have HE:Hid (proR rs r n=((proA rs r n==3)||((repA rs r n !=3) && mayP (rs.getD r rnd0).rep (proA rs r n)))):=(rfl:_=_)
 generalize proR rs r n=E at HE⊢;generalize (rs.getD r rnd0).rep=qr at*;generalize proA rs r n=P at*;generalize repA rs r n=R at*;generalize rndC rs=ds at*;have U:(r:Int)<4:=by omega
 have T:(n:Int)<3:=by omega
 go_enter Tryz.func198,Tryz.ntmps198
 go_wp2_with fail
 generalize w.alloc (.cells ds.toArray 153)=W at*;have hW:Below W.heap.size W W.drew:=(Below.refl _ _).drew;have I:Nonempty (Lat W):=⟨⟨W,Below.refl _ _⟩⟩
 by_cases hP:P=3
 ·have E2:Hid (E=true):=by rw[HE.out,hP];rfl
  have A:(P !=3)=false:=by simp[hP]
  rw[A]at s;clear HE hP;refine z0b (S:=fun w'=>∃u:Lat W,w'=u.val) (by kernel_rfl) ?_;refine sgr [(1,2)] 26 (by kernel_rfl) ⟨⟨_,hW⟩,rfl⟩ ?_;simp only[pkE];repeat go_big_quiet_step (fail)
  refine wpQuiet_nil ?_;refine qta 0 (some 7) (.agg ds.toArray) 25 (by kernel_rfl) (fun u hu=>?_) ⟨⟨_,hW⟩,rfl⟩ ?_
  ·obtain⟨u,rfl⟩:=hu;show some (((Instr.loadAt 153 (.pointer (some ⟨w.heap.size,0,none⟩)))>>=fun x=>pure (Next.value x):Sem Next).run Tryz.prog u.val)=_;rw[Sem.run_bind,y u];rfl
  simp only[Act.put,pjE];refine cla 3 (some 10) 215 #[.agg ds.toArray,.int .i64 (r:Int),.int .i64 (n:Int)] 24 (by kernel_rfl) ?_;refine(s _).mono ?_;rintro e w9 ⟨rfl,c⟩;replace hW:=hW.trans (c.mono hW.size);clear c;refine⟨_,rfl,⟨⟨_,hW⟩,rfl⟩,?_⟩;simp only[Act.put,pjE];refine sgr [(4,2),(7,2)] 20 (by kernel_rfl) ⟨⟨_,hW⟩,rfl⟩ ?_;simp only[pkE];repeat go_big_quiet_step (fail)
  refine wpQuiet_nil ?_;refine ska 6 (some 13) 19 (by kernel_rfl) ⟨⟨_,hW⟩,rfl⟩ ?_;simp only[Act.put,pjE];refine ska 9 (some 16) 18 (by kernel_rfl) ⟨⟨_,hW⟩,rfl⟩ ?_;simp only[Act.put,pjE];refine sgr [(10,5),(17,7)] 6 (by kernel_rfl) ⟨⟨_,hW⟩,rfl⟩ ?_;simp only[pkE];repeat go_big_quiet_step (fail)
  refine wpQuiet_nil ?_;refine ska 15 (some 22) 5 (by kernel_rfl) ⟨⟨_,hW⟩,rfl⟩ ?_;simp only[Act.put,pjE];refine ska 16 (some 23) 4 (by kernel_rfl) ⟨⟨_,hW⟩,rfl⟩ ?_;simp only[Act.put,pjE];refine ska 24 (some 31) 3 (by kernel_rfl) ⟨⟨_,hW⟩,rfl⟩ ?_;simp only[Act.put,pjE];refine sgr [(25,3)] 0 (by kernel_rfl) ⟨⟨_,hW⟩,rfl⟩ ?_;simp only[pkE];repeat go_big_quiet_step (fail)
  refine wpQuiet_nil ?_;refine z0e (by kernel_rfl) ?_;replace d:=d.trans (hW.mono d.size);clear y D cp hW I s q C z
  go_wp2
  go_ret;exact⟨by rw[E2.out];rfl,d⟩
 ·have A:(P !=3)=true:=by simpa using hP
  have N:(P==3)=false:=by simpa using hP
  rw[A]at s;rw[N]at HE;clear hP A;by_cases hR:R=3
  ·have E2:Hid (E=false):=by rw[HE.out,hR];rfl
   have G:(R !=3)=false:=by simp[hR]
   rw[G]at q;clear HE hR;refine z0b (S:=fun w'=>∃u:Lat W,w'=u.val) (by kernel_rfl) ?_;refine sgr [(1,2)] 26 (by kernel_rfl) ⟨⟨_,hW⟩,rfl⟩ ?_;simp only[pkE];repeat go_big_quiet_step (fail)
   refine wpQuiet_nil ?_;refine qta 0 (some 7) (.agg ds.toArray) 25 (by kernel_rfl) (fun u hu=>?_) ⟨⟨_,hW⟩,rfl⟩ ?_
   ·obtain⟨u,rfl⟩:=hu;show some (((Instr.loadAt 153 (.pointer (some ⟨w.heap.size,0,none⟩)))>>=fun x=>pure (Next.value x):Sem Next).run Tryz.prog u.val)=_;rw[Sem.run_bind,y u];rfl
   simp only[Act.put,pjE];refine cla 3 (some 10) 215 #[.agg ds.toArray,.int .i64 (r:Int),.int .i64 (n:Int)] 24 (by kernel_rfl) ?_;refine(s _).mono ?_;rintro e w9 ⟨rfl,c⟩;replace hW:=hW.trans (c.mono hW.size);clear c;refine⟨_,rfl,⟨⟨_,hW⟩,rfl⟩,?_⟩;simp only[Act.put,pjE];refine sgr [(4,2),(7,2)] 20 (by kernel_rfl) ⟨⟨_,hW⟩,rfl⟩ ?_;simp only[pkE];repeat go_big_quiet_step (fail)
   refine wpQuiet_nil ?_;refine qta 6 (some 13) (.agg ds.toArray) 19 (by kernel_rfl) (fun u hu=>?_) ⟨⟨_,hW⟩,rfl⟩ ?_
   ·obtain⟨u,rfl⟩:=hu;show some (((Instr.loadAt 153 (.pointer (some ⟨w.heap.size,0,none⟩)))>>=fun x=>pure (Next.value x):Sem Next).run Tryz.prog u.val)=_;rw[Sem.run_bind,y u];rfl
   simp only[Act.put,pjE];refine cla 9 (some 16) 217 #[.agg ds.toArray,.int .i64 (r:Int),.int .i64 (n:Int)] 18 (by kernel_rfl) ?_;refine(q _).mono ?_;rintro e w9 ⟨rfl,c⟩;replace hW:=hW.trans (c.mono hW.size);clear c;refine⟨_,rfl,⟨⟨_,hW⟩,rfl⟩,?_⟩;simp only[Act.put,pjE];refine sgr [(10,5),(17,7)] 6 (by kernel_rfl) ⟨⟨_,hW⟩,rfl⟩ ?_;simp only[pkE];repeat go_big_quiet_step (fail)
   refine wpQuiet_nil ?_;refine ska 15 (some 22) 5 (by kernel_rfl) ⟨⟨_,hW⟩,rfl⟩ ?_;simp only[Act.put,pjE];refine ska 16 (some 23) 4 (by kernel_rfl) ⟨⟨_,hW⟩,rfl⟩ ?_;simp only[Act.put,pjE];refine ska 24 (some 31) 3 (by kernel_rfl) ⟨⟨_,hW⟩,rfl⟩ ?_;simp only[Act.put,pjE];refine sgr [(25,3)] 0 (by kernel_rfl) ⟨⟨_,hW⟩,rfl⟩ ?_;simp only[pkE];repeat go_big_quiet_step (fail)
   refine wpQuiet_nil ?_;refine z0e (by kernel_rfl) ?_;replace d:=d.trans (hW.mono d.size);clear y D cp hW I s q C z
   go_wp2
   go_ret;exact⟨by rw[E2.out];rfl,d⟩
  ·have G:(R !=3)=true:=by simpa using hR
   rw[G]at q HE;clear hR;have E2:Hid (E=mayP qr P):=by rw[HE.out];exact(rfl:_=_)
   generalize mayP qr P=X at*;clear HE;refine z0b (S:=fun w'=>∃u:Lat W,w'=u.val) (by kernel_rfl) ?_;refine sgr [(1,2)] 26 (by kernel_rfl) ⟨⟨_,hW⟩,rfl⟩ ?_;simp only[pkE];repeat go_big_quiet_step (fail)
   refine wpQuiet_nil ?_;refine qta 0 (some 7) (.agg ds.toArray) 25 (by kernel_rfl) (fun u hu=>?_) ⟨⟨_,hW⟩,rfl⟩ ?_
   ·obtain⟨u,rfl⟩:=hu;show some (((Instr.loadAt 153 (.pointer (some ⟨w.heap.size,0,none⟩)))>>=fun x=>pure (Next.value x):Sem Next).run Tryz.prog u.val)=_;rw[Sem.run_bind,y u];rfl
   simp only[Act.put,pjE];refine cla 3 (some 10) 215 #[.agg ds.toArray,.int .i64 (r:Int),.int .i64 (n:Int)] 24 (by kernel_rfl) ?_;refine(s _).mono ?_;rintro e w9 ⟨rfl,c⟩;replace hW:=hW.trans (c.mono hW.size);clear c;refine⟨_,rfl,⟨⟨_,hW⟩,rfl⟩,?_⟩;simp only[Act.put,pjE];refine sgr [(4,2),(7,2)] 20 (by kernel_rfl) ⟨⟨_,hW⟩,rfl⟩ ?_;simp only[pkE];repeat go_big_quiet_step (fail)
   refine wpQuiet_nil ?_;refine qta 6 (some 13) (.agg ds.toArray) 19 (by kernel_rfl) (fun u hu=>?_) ⟨⟨_,hW⟩,rfl⟩ ?_
   ·obtain⟨u,rfl⟩:=hu;show some (((Instr.loadAt 153 (.pointer (some ⟨w.heap.size,0,none⟩)))>>=fun x=>pure (Next.value x):Sem Next).run Tryz.prog u.val)=_;rw[Sem.run_bind,y u];rfl
   simp only[Act.put,pjE];refine cla 9 (some 16) 217 #[.agg ds.toArray,.int .i64 (r:Int),.int .i64 (n:Int)] 18 (by kernel_rfl) ?_;refine(q _).mono ?_;rintro e w9 ⟨rfl,c⟩;replace hW:=hW.trans (c.mono hW.size);clear c;refine⟨_,rfl,⟨⟨_,hW⟩,rfl⟩,?_⟩;simp only[Act.put,pjE];refine sgr [(10,5),(17,7)] 6 (by kernel_rfl) ⟨⟨_,hW⟩,rfl⟩ ?_;simp only[pkE];repeat go_big_quiet_step (fail)
   refine wpQuiet_nil ?_;refine qta 15 (some 22) (.agg (qr.map iv).toArray) 5 (by kernel_rfl) (fun u hu=>?_) ⟨⟨_,hW⟩,rfl⟩ ?_
   ·obtain⟨u,rfl⟩:=hu;show some (((Instr.loadAt 148 (.pointer (some ⟨w.heap.size,1+r*6,none⟩)))>>=fun x=>pure (Next.value x):Sem Next).run Tryz.prog u.val)=_;rw[Sem.run_bind,D u];rfl
   simp only[Act.put,pjE];refine cla 16 (some 23) 154 #[.agg (qr.map iv).toArray] 4 (by kernel_rfl) ?_;refine(C _ J).mono ?_;rintro e w9 ⟨la,lc,rfl,lO,lG,lR,c⟩;replace hW:=hW.trans (c.mono hW.size);have M:=z la lc _ (hG.below (d.trans (hW.mono d.size))) lR;clear lO lG lR;clear c;refine⟨_,rfl,⟨⟨_,hW⟩,rfl⟩,?_⟩;simp only[Act.put,pjE];refine cla 24 (some 31) 218 #[.slice la 3 lc,.int .i64 P] 3 (by kernel_rfl) ?_;refine(M).mono ?_;rintro e w9 ⟨rfl,c⟩;replace hW:=hW.trans (c.mono hW.size);clear c;refine⟨_,rfl,⟨⟨_,hW⟩,rfl⟩,?_⟩;simp only[Act.put,pjE];refine sgr [(25,3)] 0 (by kernel_rfl) ⟨⟨_,hW⟩,rfl⟩ ?_;simp only[pkE];repeat go_big_quiet_step (fail)
   refine wpQuiet_nil ?_;refine z0e (by kernel_rfl) ?_;replace d:=d.trans (hW.mono d.size);clear y D cp hW I s q C z M
   go_wp2
   go_ret;exact⟨by rw[E2.out];rfl,d⟩
theorem z9E{rs:List RoundE}{r n:Nat}(h:proA rs r n≠3)(h2:repA rs r n=3∨mayP (rs.getD r rnd0).rep (proA rs r n)=false):proR rs r n=false:=by
 unfold proR;rw[Bool.or_eq_false_iff];refine⟨by simpa using h,?_⟩;rcases h2 with h2|h2
 ·rw[h2];rfl
 ·rw[h2];simp
theorem z1I{rs:List RoundE}{r n:Nat}(h:proA rs r n=3∨(repA rs r n≠3∧mayP (rs.getD r rnd0).rep (proA rs r n)=true)):proR rs r n=true:=by
 unfold proR;rw[Bool.or_eq_true];rcases h with h|⟨h1,h2⟩
 ·left;simpa using h
 ·right;rw[h2];simpa using h1
theorem z9F{has:Bool}{rs:List RoundE}{r n:Nat}(h:proR rs r n=false):sayM has rs r n=false:=by
 unfold sayM;rw[h];rfl
theorem z3Q{has:Bool}{rs:List RoundE}{r n:Nat}(h:proR rs r n=true)(h2:r=0∨repA rs r n=3):sayM has rs r n=true:=by
 unfold sayM;rw[h,if_pos h2];rfl
theorem z8a{has:Bool}{rs:List RoundE}{r n:Nat}(h:proR rs r n=true)(h2:¬(r=0∨repA rs r n=3)):sayM has rs r n=(z7M rs r n && (has||(repA rs r n==0)||decide (0<cnt 7 (rs.getD (r-1) rnd0).pro 1))):=by
 unfold sayM;rw[h,if_neg h2];rfl
theorem z2d{w:World}{v:Value}{zs:List Int}{m:Int}(h:intK.At w v zs)(hv:vf zs m=0)(n:Nat)(hn:n<3):∃a c b off,v=.slice a 3 c∧a=some ⟨b,off,none⟩∧w.cell? ⟨b,off+n,none⟩=some (.int .i64 (zs.getD n 0))∧Row .i64 w a zs:=by
 have hl:=z0A hv;obtain⟨a,c,e⟩:=h.shape;subst e;have hR:=(z0y h).2;obtain⟨b,off,ha,_,hc⟩:=hR n (by omega);exact⟨a,c,b,off,by rw[hl],ha,hc,hR⟩
theorem z7p(b o:Nat)(p:InstQ)(r n:Nat)(w:World)(hP:InstP w b o p)(hr:r<p.rounds.length)(h4:p.rounds.length≤4)(hn:n<3)(hF:z0K (p.rounds.map RoundQ.e)=0):
  Calls Tryz.prog 110 #[.pointer (some ⟨b,o,none⟩),.int .i64 (r:Int),.int .i64 (n:Int)] w fun e w'=>e=.returned (.bool (sayM p.has (p.rounds.map RoundQ.e) r n))∧Below w.heap.size w w':=by
 have hB:Below w.heap.size w w:=Below.refl _ _;obtain⟨has,vb,aF,vr,d,vd,dec⟩:=p;dsimp only at hr h4 hF⊢;have HE:Hid (sayM has (d.map RoundQ.e) r n=sayM has (d.map RoundQ.e) r n):=(rfl:_=_)
 generalize hE:sayM has (d.map RoundQ.e) r n=E at HE⊢;replace HE:Hid (E=sayM has (d.map RoundQ.e) r n):=hE.symm;clear hE;obtain⟨aJ,aO,rfl⟩:∃a c,vr=.slice a d.length c:=hP.rounds.shape;obtain⟨ad,am⟩:=z1g hF r (by rw[List.length_map];exact hr);have af:=z0X d r hr;rw[af]at ad am;have ad:vf d[r].rep 1=0:=ad;have am:vf d[r].pro 2=0:=am;generalize ab:d.map RoundQ.e=rs at*;have HQ:Hid (proA rs r n=d[r].pro.getD n 0∧repA rs r n=d[r].rep.getD n 0∧(rs.getD r rnd0).rep=d[r].rep):=by
  refine⟨?_,?_,?_⟩
  ·show(rs.getD r rnd0).pro.getD n 0=_;rw[af];rfl
  ·show(rs.getD r rnd0).rep.getD n 0=_;rw[af];rfl
  ·rw[af];rfl
 obtain⟨rb,ro,aC,aM,hc,aG⟩:=hP.rounds.cell (by decide) r hr;have aD:aJ=some ⟨rb,ro,none⟩:=aC;have av:∀j x,(roundK.cells d[r])[j]?=some x→w.cell? ⟨rb,ro+r*2+j,none⟩=some x:=hc;have r0:=av 0 (d[r].vr) rfl;have r1:=av 1 (d[r].vp) rfl;obtain⟨az,J⟩:intK.At w d[r].vr d[r].rep∧intK.At w d[r].vp d[r].pro:=aG;clear hc av af aC;generalize d[r].vr=qv at*;generalize d[r].rep=qr at*;generalize d[r].vp=qw at*;generalize d[r].pro=qp at*;obtain⟨xa,xc,xb,xo,rfl,aH,ax,ap⟩:=z2d az ad n hn;obtain⟨ya,yc,yb,yo,rfl,aI,ay,aq⟩:=z2d J am n hn;have ah:=fun w h=>z5K xa xc qr (qp.getD n 0) w h (by have:=z0A ad;omega)
 rw[z0A ad]at ah;subst aH aI;obtain⟨c0,c1,c2,c3⟩:=hP.box;dsimp only at c0 c1 c2 c3;clear az J;generalize aK:qp.getD n 0=PP at*;generalize aL:qr.getD n 0=RR at*;have I:Hid (RR=repA rs r n):=HQ.out.2.1.symm;have aN:(n:Int)<3:=by omega
 rw[Nat.add_zero]at r0;subst aD;go_enter Tryz.func110,Tryz.ntmps110;by_cases V:PP=3
 ·have A:Hid (proR rs r n=true):=z1I (Or.inl (by rw[HQ.out.1];exact V));have an:(PP !=3)=false:=by simp[V]
  clear HQ ah aq;by_cases ai:r=0
  ·have E2:Hid (E=true):=by rw[HE.out];exact z3Q A.out (Or.inl ai)
   subst ai;try simp only[Nat.zero_mul,Nat.add_zero]at r0 r1
   clear HE A
   go_wp2
   go_ret;exact⟨by rw[E2.out];rfl,hB⟩
  ·obtain⟨s,rfl⟩:∃s,r=s+1:=⟨r-1,by omega⟩
   have aB:(((s+1:Nat):Int)==0)=false:=by simp;omega
   by_cases z:repA rs (s+1) n=3
   ·have E2:Hid (E=true):=by rw[HE.out];exact z3Q A.out (Or.inr z)
    have D:(RR==3)=true:=by rw[I.out,z];rfl
    clear HE A
    go_wp2
    go_ret;exact⟨by rw[E2.out];rfl,hB⟩
   ·have HS:Hid (E=(z7M rs (s+1) n && (has||(repA rs (s+1) n==0)||decide (0<cnt 7 (rs.getD s rnd0).pro 1)))):=by
     rw[HE.out];exact z8a A.out (by omega)
    have D:(RR==3)=false:=by rw[I.out];simpa using z
    have ae:Hid (z7M rs (s+1) n=((proA rs s n !=3) && mayR (rs.getD s rnd0).pro (repA rs (s+1) n))):=(rfl:_=_)
    clear HE A;obtain⟨c0,c1,c2,c3⟩:=hP.box;dsimp only at c0 c1 c2 c3;have hs:s<d.length:=by omega
    obtain⟨sb,so,aj,aE,ak,T⟩:=hP.rounds.cell (by decide) s hs;simp only[Option.some.injEq,Addr.mk.injEq,and_true]at aj;obtain⟨rfl,rfl⟩:=aj;have O:∀j x,(roundK.cells d[s])[j]?=some x→w.cell? ⟨rb,ro+s*2+j,none⟩=some x:=ak;have s1:=O 1 (d[s].vp) rfl;have y:=(z1g hF s (by rw[←ab,List.length_map];exact hs)).2;rw[←ab,z0X d s hs]at y;have y:vf d[s].pro 2=0:=y;have HA:Hid (proA rs s n=d[s].pro.getD n 0∧(rs.getD s rnd0).pro=d[s].pro):=by
     have:rs.getD s rnd0=RoundQ.e d[s]:=by rw[←ab];exact z0X d s hs
     refine⟨?_,?_⟩
     ·show(rs.getD s rnd0).pro.getD n 0=_;rw[this];rfl
     ·rw[this];rfl
    have N:intK.At w d[s].vp d[s].pro:=T.2;clear ak O T;generalize d[s].vp=qw at*;generalize d[s].pro=qp at*;obtain⟨pa,pc,pb,po,rfl,aw,aa,U⟩:=z2d N y n hn;have G:=fun w h=>z3x pa pc qp RR w h (by have:=z0A y;omega)
    have C:=fun w h=>z0I pa pc qp 7 1 w h (z0A y) rfl
    rw[z0A y]at G;have q:Hid (E=(((qp.getD n 0 !=3) && mayR qp RR) && (has||(RR==0)||decide (0<cnt 7 qp 1)))):=by
     rw[HS.out,ae.out,HA.out.1,HA.out.2,←I.out];exact(rfl:_=_)
    subst aw;clear HS ae HA N y;generalize qp.getD n 0=AA at*;by_cases hA:AA=3
    ·have E2:Hid (E=false):=by rw[q.out,hA];rfl
     have ar:(AA==3)=true:=by simp[hA]
     clear q G C hA
     go_wp2
     go_ret;exact⟨by rw[E2.out];rfl,hB⟩
    ·have ar:(AA==3)=false:=by simpa using hA
     have J:(AA !=3)=true:=by simpa using hA
     rw[J]at q;clear hA J;have M:=G w U;generalize mayR qp RR=Y at*
     go_wp2_with fail
     refine M.mono ?_;rintro e w5 ⟨rfl,W⟩;have au:=hP.below W;replace hB:=hB.trans (W.mono hB.size);have Z:=U.below W;clear G M c0 c1 c2 c3 s1 aa;obtain⟨c0,c1,c2,c3⟩:=au.box;dsimp only at c0 c1 c2 c3
     cases Y with
     |false=>
      have E2:Hid (E=false):=by rw[q.out];rfl
      clear q C
      go_wp2
      go_ret;exact⟨by rw[E2.out];rfl,hB⟩
     |true=>
      cases has with
      |true=>
       have E2:Hid (E=true):=by rw[q.out];rfl
       clear q C
       go_wp2
       go_ret;exact⟨by rw[E2.out];rfl,hB⟩
      |false=>
       by_cases hz:RR=0
       ·have E2:Hid (E=true):=by rw[q.out,hz];rfl
        have al:(RR==0)=true:=by simp[hz]
        clear q C hz
        go_wp2
        go_ret;exact⟨by rw[E2.out];rfl,hB⟩
       ·have al:(RR==0)=false:=by simpa using hz
        rw[al]at q;have L:=C w5 Z;generalize cnt 7 qp 1=CC at*;clear hz C
        go_wp2_with fail
        refine L.mono ?_;rintro e w6 ⟨rfl,ag⟩;replace hB:=hB.trans (ag.mono hB.size);clear L ag c0 c1 c2 c3;have E2:Hid (E=decide (0<CC)):=show _=_ by rw[q.out];simp
        clear q
        go_wp2
        go_ret;exact⟨by rw[E2.out];rfl,hB⟩
 ·have an:(PP !=3)=true:=by simpa using V
  by_cases z:RR=3
  ·have E2:Hid (E=false):=by rw[HE.out];exact z9F (z9E (by rw[HQ.out.1];exact V) (Or.inl (by rw[←I.out];exact z)))
   have D:(RR==3)=true:=by simp[z]
   clear HE HQ ah z V
   go_wp2
   go_ret;exact⟨by rw[E2.out];rfl,hB⟩
  ·have D:(RR==3)=false:=by simpa using z
   have HX:Hid (mayP qr PP=false→E=false):=fun hx=>by rw[HE.out];exact z9F (z9E (by rw[HQ.out.1];exact V) (Or.inr (by rw[HQ.out.2.2,HQ.out.1];exact hx)))
   have HY:Hid (mayP qr PP=true→proR rs r n=true):=fun hx=>z1I (Or.inr ⟨by rw[←I.out];exact z,by rw[HQ.out.2.2,HQ.out.1];exact hx⟩)
   have ao:=ah w ap;generalize mayP qr PP=X at*;clear z V HQ ah
   go_wp2_with fail
   refine ao.mono ?_;rintro e w1 ⟨rfl,aA⟩;replace hP:=hP.below aA;replace hB:=hB.trans (aA.mono hB.size);clear ao c0 c1 c2 c3 r0 r1 ax ay aq ap
   cases X with
   |false=>
    have E2:Hid (E=false):=HX.out rfl;clear HX HY HE
    go_wp2
    go_ret;exact⟨by rw[E2.out];rfl,hB⟩
   |true=>
    have A:Hid (proR rs r n=true):=HY.out rfl;clear HX HY D an;by_cases ai:r=0
    ·have E2:Hid (E=true):=by rw[HE.out];exact z3Q A.out (Or.inl ai)
     subst ai;try simp only[Nat.zero_mul,Nat.add_zero]at r0 r1
     clear HE A
     go_wp2
     go_ret;exact⟨by rw[E2.out];rfl,hB⟩
    ·obtain⟨s,rfl⟩:∃s,r=s+1:=⟨r-1,by omega⟩
     have aB:(((s+1:Nat):Int)==0)=false:=by simp;omega
     by_cases z:repA rs (s+1) n=3
     ·have E2:Hid (E=true):=by rw[HE.out];exact z3Q A.out (Or.inr z)
      have D:(RR==3)=true:=by rw[I.out,z];rfl
      clear HE A
      go_wp2
      go_ret;exact⟨by rw[E2.out];rfl,hB⟩
     ·have HS:Hid (E=(z7M rs (s+1) n && (has||(repA rs (s+1) n==0)||decide (0<cnt 7 (rs.getD s rnd0).pro 1)))):=by
       rw[HE.out];exact z8a A.out (by omega)
      have D:(RR==3)=false:=by rw[I.out];simpa using z
      have ae:Hid (z7M rs (s+1) n=((proA rs s n !=3) && mayR (rs.getD s rnd0).pro (repA rs (s+1) n))):=(rfl:_=_)
      clear HE A;obtain⟨c0,c1,c2,c3⟩:=hP.box;dsimp only at c0 c1 c2 c3;have hs:s<d.length:=by omega
      obtain⟨sb,so,aj,aE,ak,T⟩:=hP.rounds.cell (by decide) s hs;simp only[Option.some.injEq,Addr.mk.injEq,and_true]at aj;obtain⟨rfl,rfl⟩:=aj;have O:∀j x,(roundK.cells d[s])[j]?=some x→w1.cell? ⟨rb,ro+s*2+j,none⟩=some x:=ak;have s1:=O 1 (d[s].vp) rfl;have y:=(z1g hF s (by rw[←ab,List.length_map];exact hs)).2;rw[←ab,z0X d s hs]at y;have y:vf d[s].pro 2=0:=y;have HA:Hid (proA rs s n=d[s].pro.getD n 0∧(rs.getD s rnd0).pro=d[s].pro):=by
       have:rs.getD s rnd0=RoundQ.e d[s]:=by rw[←ab];exact z0X d s hs
       refine⟨?_,?_⟩
       ·show(rs.getD s rnd0).pro.getD n 0=_;rw[this];rfl
       ·rw[this];rfl
      have N:intK.At w1 d[s].vp d[s].pro:=T.2;clear ak O T;generalize d[s].vp=qw at*;generalize d[s].pro=qp at*;obtain⟨pa,pc,pb,po,rfl,aw,aa,U⟩:=z2d N y n hn;have G:=fun w h=>z3x pa pc qp RR w h (by have:=z0A y;omega)
      have C:=fun w h=>z0I pa pc qp 7 1 w h (z0A y) rfl
      rw[z0A y]at G;have q:Hid (E=(((qp.getD n 0 !=3) && mayR qp RR) && (has||(RR==0)||decide (0<cnt 7 qp 1)))):=by
       rw[HS.out,ae.out,HA.out.1,HA.out.2,←I.out];exact(rfl:_=_)
      subst aw;clear HS ae HA N y;generalize qp.getD n 0=AA at*;by_cases hA:AA=3
      ·have E2:Hid (E=false):=by rw[q.out,hA];rfl
       have ar:(AA==3)=true:=by simp[hA]
       clear q G C hA
       go_wp2
       go_ret;exact⟨by rw[E2.out];rfl,hB⟩
      ·have ar:(AA==3)=false:=by simpa using hA
       have J:(AA !=3)=true:=by simpa using hA
       rw[J]at q;clear hA J;have M:=G w1 U;generalize mayR qp RR=Y at*
       go_wp2_with fail
       refine M.mono ?_;rintro e w5 ⟨rfl,W⟩;have au:=hP.below W;replace hB:=hB.trans (W.mono hB.size);have Z:=U.below W;clear G M c0 c1 c2 c3 s1 aa;obtain⟨c0,c1,c2,c3⟩:=au.box;dsimp only at c0 c1 c2 c3
       cases Y with
       |false=>
        have E2:Hid (E=false):=by rw[q.out];rfl
        clear q C
        go_wp2
        go_ret;exact⟨by rw[E2.out];rfl,hB⟩
       |true=>
        cases has with
        |true=>
         have E2:Hid (E=true):=by rw[q.out];rfl
         clear q C
         go_wp2
         go_ret;exact⟨by rw[E2.out];rfl,hB⟩
        |false=>
         by_cases hz:RR=0
         ·have E2:Hid (E=true):=by rw[q.out,hz];rfl
          have al:(RR==0)=true:=by simp[hz]
          clear q C hz
          go_wp2
          go_ret;exact⟨by rw[E2.out];rfl,hB⟩
         ·have al:(RR==0)=false:=by simpa using hz
          rw[al]at q;have L:=C w5 Z;generalize cnt 7 qp 1=CC at*;clear hz C
          go_wp2_with fail
          refine L.mono ?_;rintro e w6 ⟨rfl,ag⟩;replace hB:=hB.trans (ag.mono hB.size);clear L ag c0 c1 c2 c3;have E2:Hid (E=decide (0<CC)):=show _=_ by rw[q.out];simp
          clear q
          go_wp2
          go_ret;exact⟨by rw[E2.out];rfl,hB⟩
theorem z8b{rs:List RoundE}{v:Int}{k:Nat}(hk:k<rs.length)(h:2≤cnt 7 (rs.getD k rnd0).pro v):agr rs v=true:=by
 unfold agr;rw[List.any_eq_true];refine⟨rs[k],List.getElem_mem hk,?_⟩;have e:rs.getD k rnd0=rs[k]:=by simp[List.getD,hk]
 rw[e]at h;simpa using h
theorem z5d{rs:List RoundE}{v:Int}(h:∀k,k<rs.length→cnt 7 (rs.getD k rnd0).pro v<2):agr rs v=false:=by
 unfold agr;rw[List.any_eq_false];intro x hx;obtain⟨k,hk,rfl⟩:=List.getElem_of_mem hx;have e:rs.getD k rnd0=rs[k]:=by simp[List.getD,hk]
 have:=h k hk;rw[e]at this;simpa using this
theorem z6t(b o:Nat)(p:InstQ)(n:Nat)(w:World)(hP:InstP w b o p)(h4:p.rounds.length≤4)(hn:n<3)(hF:z0K (p.rounds.map RoundQ.e)=0)(hD:vf p.dec 1=0):
  Calls Tryz.prog 111 #[.pointer (some ⟨b,o,none⟩),.int .i64 (n:Int)] w fun e w'=>e=.returned (.bool (endR (p.rounds.map RoundQ.e) (p.dec.getD n 0)))∧Below w.heap.size w w':=by
 obtain⟨has,vb,U,vr,d,vd,dec⟩:=p;dsimp only at h4 hF hD⊢;have y:intK.At w vd dec:=hP.dec;obtain⟨da,dc,db,Z,rfl,V,A,I⟩:=z2d y hD n hn;subst V;generalize hE:endR (d.map RoundQ.e) (dec.getD n 0)=E;have HE:Hid (E=((dec.getD n 0==3)||agr (d.map RoundQ.e) (dec.getD n 0))):=hE.symm;clear hE y I;generalize dec.getD n 0=v at*;obtain⟨ra,rk,rfl⟩:∃a c,vr=.slice a d.length c:=hP.rounds.shape;obtain⟨c0,c1,c2,c3⟩:=hP.box;dsimp only at c0 c1 c2 c3;have ab:(n:Int)<3:=by omega
 by_cases hv:v=3
 ·have E2:Hid (E=true):=by rw[HE.out,hv];rfl
  have T:(v==3)=true:=by simp[hv]
  clear HE hv;go_enter Tryz.func111,Tryz.ntmps111
  go_wp2
  go_ret;exact⟨by rw[E2.out];rfl,Below.refl _ _⟩
 ·have T:(v==3)=false:=by simpa using hv
  have s:Hid (E=agr (d.map RoundQ.e) v):=by rw[HE.out,T];exact(rfl:_=_)
  clear HE hv;go_enter Tryz.func111,Tryz.ntmps111
  go_wp2
  clear c0 c1 c2 c3 A;go_loopw[6] (fun j wr=>∃k:Nat,k≤d.length∧j=.int .i64 k∧Hid (∀j,j<k→cnt 7 ((d.map RoundQ.e).getD j rnd0).pro v<2)∧Below w.heap.size w wr) (fun j _=>d.length-(intOf j).toNat)
  case atStart=>exact⟨0,Nat.zero_le _,rfl,fun j hj=>absurd hj (Nat.not_lt_zero _),Below.refl _ _⟩
  case round=>
   obtain⟨k,hk,rfl,HA,hb⟩:=hrel;have D:=hP.below hb;obtain⟨c0,c1,c2,c3⟩:=D.box;dsimp only at c0 c1 c2 c3;by_cases q:k<d.length
   ·obtain⟨rb,ro,rfl,aa,hc,O⟩:=D.rounds.cell (by decide) k q;have M:∀j x,(roundK.cells d[k])[j]?=some x→wr.cell? ⟨rb,ro+k*2+j,none⟩=some x:=hc;have r1:=M 1 (d[k].vp) rfl;have r:=(z1g hF k (by rw[List.length_map];exact q)).2;have HY:Hid (2≤cnt 7 d[k].pro v→E=true):=fun h=>by
     rw[s.out];exact z8b (k:=k) (by rw[List.length_map];exact q) (by rw[z0X d k q];exact h)
    have HN:Hid (cnt 7 d[k].pro v<2→∀j,j<k+1→cnt 7 ((d.map RoundQ.e).getD j rnd0).pro v<2):=by
     intro h j hj;by_cases W:j=k
     ·subst W;rw[z0X d j q];exact h
     ·exact HA.out j (by omega)
    rw[z0X d k q]at r;have r:vf d[k].pro 2=0:=r;have J:intK.At wr d[k].vp d[k].pro:=O.2;clear hc M O HA;generalize d[k].vp=qw at*;generalize d[k].pro=qp at*;obtain⟨pa,pc,pb,po,rfl,Y,G,z⟩:=z2d J r 0 (by omega);subst Y;have N:=z0I (some ⟨pb,po,none⟩) pc qp 7 v wr z (z0A r) rfl;generalize cnt 7 qp v=C at*;clear J r G z
    go_wp2_with fail
    refine N.mono ?_;rintro e w2 ⟨rfl,L⟩;replace hb:=hb.trans (L.mono hb.size);clear N c0 c1 c2 c3 r1 L D;by_cases hC:2≤C
    ·have E2:Hid (E=true):=HY.out hC;clear HY HN s
     go_wp2
     go_ret;exact⟨by rw[E2.out];rfl,hb⟩
    ·have R:=HN.out (by omega);have HR:Hid _:=R;clear HY HN R
     go_wp2
     go_roundw
     case rel=>exact⟨k+1,by omega,by go_num,HR.out,hb⟩
     case measure=>simp[intOf];omega
   ·have X:k=d.length:=by omega
    subst X;have E2:Hid (E=false):=by rw[s.out];exact z5d (by simpa using HA.out)
    clear HA s
    go_wp2
    go_ret;exact⟨by rw[E2.out];rfl,hb⟩
theorem z05{x:InstE}(h:shpF x=0):(1≤x.rounds.length∧x.rounds.length≤4)∧z0K x.rounds=0∧vf x.dec 1=0∧(x.has=false→x.batch=[])∧(x.has=true→batF x.batch=0):=by
 unfold shpF at h;by_cases h1:x.has=false∧0<x.batch.length
 ·rw[if_pos h1]at h;simp at h
 rw[if_neg h1]at h;by_cases h2:x.has=true∧batF x.batch≠0
 ·rw[if_pos h2]at h;exact absurd h h2.2
 rw[if_neg h2]at h;by_cases h3:x.rounds.length<1∨4<x.rounds.length
 ·rw[if_pos h3]at h;simp at h
 rw[if_neg h3]at h;by_cases h4:z0K x.rounds=0
 ·rw[if_pos h4]at h;refine⟨by omega,h4,h,fun hh=>?_,fun hh=>?_⟩
  ·cases hb:x.batch with
   |nil=>rfl
   |cons _ _=>exact absurd ⟨hh,by rw[hb];simp⟩ h1
  ·by_cases hb:batF x.batch=0
   ·exact hb
   ·exact absurd ⟨hh,hb⟩ h2
 ·rw[if_neg h4]at h;exact absurd h h4
theorem z8c{has:Bool}{rs:List RoundE}{r n:Nat}(hr:r<rs.length)(hn:n<3)(h:sayM has rs r n=false):(List.range rs.length).all (z6Q has rs)=false:=by
 rw[List.all_eq_false];refine⟨r,List.mem_range.2 hr,?_⟩;intro e;rw[(z3O has rs r).1 e n hn]at h;exact absurd h (by decide)
theorem z1C(rs:List RoundE)(dec:List Int):z4C rs dec=true↔∀n,n<3→endR rs (dec.getD n 0)=true:=by
 unfold z4C;simp only[Bool.and_eq_true];constructor
 ·rintro⟨⟨h0,h1⟩,h2⟩ n hn;have:n=0∨n=1∨n=2:=by omega
  rcases this with rfl|rfl|rfl
  ·exact h0
  ·exact h1
  ·exact h2
 ·intro h;exact⟨⟨h 0 (by omega),h 1 (by omega)⟩,h 2 (by omega)⟩
theorem q0U{x:InstE}(h:shpF x=0):insF x=if q1s x then 0 else 10:=by
 obtain⟨h1,h2,h3,_⟩:=z05 h;unfold insF;rw[if_pos h,z9c h2 (by omega)]
theorem z2B(b o:Nat)(p:InstQ)(w:World)(hP:InstP w b o p)(hl:p.n≤1048576):
  Calls Tryz.prog 60 #[.pointer (some ⟨b,o,none⟩)] w fun e w'=>e=.returned (.int .i64 (insF p.e))∧Below w.heap.size w w':=by
 have al:=z6n b o p w hP hl;generalize hE:insF p.e=E;have V:Hid (E=insF p.e):=hE.symm;clear hE;go_enter Tryz.func60,Tryz.ntmps60
 go_wp2_with fail
 refine al.mono ?_;rintro e w1 ⟨rfl,N⟩;replace hP:=hP.below N;clear al;by_cases h0:shpF p.e=0
 ·obtain⟨⟨h1,h4⟩,hF,hD,_,_⟩:=z05 h0;have HE:Hid (E=if q1s p.e then 0 else 10):=V.out.trans (q0U h0);rw[h0];clear h0;obtain⟨has,vb,M,vr,d,vd,dec⟩:=p;replace hF:z0K (d.map RoundQ.e)=0:=hF;replace hD:vf dec 1=0:=hD;replace h1:1≤(d.map RoundQ.e).length:=h1;replace h4:(d.map RoundQ.e).length≤4:=h4;rw[List.length_map]at h1 h4;have Z:Hid (E=if(has|| !decide (0<cnt 7 ((d.map RoundQ.e).getD 0 rnd0).rep 1)) && (List.range (d.map RoundQ.e).length).all (z6Q has (d.map RoundQ.e)) && z4C (d.map RoundQ.e) dec then 0 else 10):=HE.out;clear HE V;have J:=fun r n w hP hr hn=>z7p b o ⟨has,vb,M,vr,d,vd,dec⟩ r n w hP hr h4 hn hF
  have O:=fun n w hP hn=>z6t b o ⟨has,vb,M,vr,d,vd,dec⟩ n w hP h4 hn hF hD
  dsimp only at J O;obtain⟨ra,rk,rfl⟩:∃a c,vr=.slice a d.length c:=hP.rounds.shape;obtain⟨rb,ro,rfl,aq,hc,ak⟩:=hP.rounds.cell (by decide) 0 (show 0<d.length by omega);have aj:∀j x,(roundK.cells d[0])[j]?=some x→w1.cell? ⟨rb,ro+0*2+j,none⟩=some x:=hc;have r0:=aj 0 (d[0].vr) rfl;have L:=(z1g hF 0 (by rw[List.length_map];omega)).1;rw[z0X d 0 (by omega)]at L Z;have L:vf d[0].rep 1=0:=L;have D:Hid (E=if(has|| !decide (0<cnt 7 d[0].rep 1)) && (List.range (d.map RoundQ.e).length).all (z6Q has (d.map RoundQ.e)) && z4C (d.map RoundQ.e) dec then 0 else 10):=Z.out;clear Z;have ah:intK.At w1 d[0].vr d[0].rep:=ak.1;clear hc aj ak;generalize d[0].vr=qv at*;generalize d[0].rep=qr at*;obtain⟨xa,xc,xb,xo,rfl,an,ag,Y⟩:=z2d ah L 0 (by omega);subst an;have ab:=z0I (some ⟨xb,xo,none⟩) xc qr 7 1 w1 Y (z0A L) rfl;clear ag Y ah L;generalize cnt 7 qr 1=C at*;obtain⟨c0,c1,c2,c3⟩:=hP.box;dsimp only at c0 c1 c2 c3;simp only[Nat.zero_mul,Nat.add_zero]at r0;have ap:(0:Int)<d.length:=by omega
  generalize am:d.map RoundQ.e=rs at*;have af:rs.length=d.length:=by rw[←am,List.length_map]
  rw[af]at D;have W:Hid (rs.length=d.length):=af;clear af
  cases has with
  |true=>
   have z:Hid (E=if(List.range d.length).all (z6Q true rs) && z4C rs dec then 0 else 10):=by rw[D.out,Bool.true_or,Bool.true_and];exact(rfl:_=_)
   have hB:=N;clear D ab
   go_wp2
   clear c0 c1 c2 c3 r0;go_loopw[4] (fun j wr=>∃k:Nat,k≤d.length∧j=.int .i64 k∧Hid (∀j,j<k→z6Q true rs j=true)∧Below w1.heap.size w1 wr) (fun j _=>d.length-(intOf j).toNat)
   case atStart=>exact⟨0,Nat.zero_le _,rfl,fun j hj=>absurd hj (Nat.not_lt_zero _),Below.refl _ _⟩
   case round=>
    obtain⟨k,hk,rfl,HA,hb⟩:=hrel;have aa:=hP.below hb;obtain⟨c0,c1,c2,c3⟩:=aa.box;dsimp only at c0 c1 c2 c3;by_cases T:k<d.length
    ·go_wp2
     clear c0 c1 c2 c3;go_loopw[5] (fun j wx=>∃m:Nat,m≤3∧j=.int .i64 m∧Hid (∀j,j<m→sayM true rs k j=true)∧Below w1.heap.size w1 wx) (fun j _=>3-(intOf j).toNat)
     case atStart=>exact⟨0,Nat.zero_le _,rfl,fun j hj=>absurd hj (Nat.not_lt_zero _),hb⟩
     case round=>
      obtain⟨m,hm,rfl,HB,q⟩:=hrel;by_cases y:m<3
      ·have hs:=J k m _ (hP.below q) T y;have HY:Hid (sayM true rs k m=false→E=10):=fun h=>by rw[z.out,←W.out,z8c (by rw[W.out];exact T) y h];rfl
       have HN:Hid (sayM true rs k m=true→∀j,j<m+1→sayM true rs k j=true):=fun h j hj=>by
        by_cases G:j=m
        ·subst G;exact h
        ·exact HB.out j (by omega)
       clear HB;generalize sayM true rs k m=X at*;have U:(m:Int)<3:=by omega
       go_wp2_with fail
       refine hs.mono ?_;rintro e w5 ⟨rfl,s⟩;replace q:=q.trans (s.mono q.size);clear hs s
       cases X with
       |false=>
        have E2:Hid (E=10):=HY.out rfl;clear HY HN z
        go_wp2
        go_ret;exact⟨by rw[E2.out];rfl,hB.trans (q.mono hB.size)⟩
       |true=>
        have R:=HN.out rfl;have HR:Hid _:=R;clear HY HN R
        go_wp2
        go_roundw
        case rel=>exact⟨m+1,by omega,by go_num,HR.out,q⟩
        case measure=>simp[intOf];omega
      ·have I:m=3:=by omega
       subst I;have HR:Hid (∀j,j<k+1→z6Q true rs j=true):=fun j hj=>by
        by_cases ad:j=k
        ·subst ad;exact(z3O true rs j).2 HB.out
        ·exact HA.out j (by omega)
       clear HA HB
       go_wp2
       go_roundw
       case rel=>exact⟨k+1,by omega,by go_num,HR.out,q⟩
       case measure=>simp[intOf];omega
    ·have ae:k=d.length:=by omega
     subst ae;have A:Hid (E=if z4C rs dec then 0 else 10):=by
      have e:(List.range d.length).all (z6Q true rs)=true:=by
       rw[List.all_eq_true];intro x hx;exact HA.out x (List.mem_range.1 hx)
      rw[z.out,e];exact(rfl:_=_)
     clear HA z
     go_wp2
     clear c0 c1 c2 c3;go_loopw[6] (fun j wx=>∃m:Nat,m≤3∧j=.int .i64 m∧Hid (∀j,j<m→endR rs (dec.getD j 0)=true)∧Below w1.heap.size w1 wx) (fun j _=>3-(intOf j).toNat)
     case atStart=>exact⟨0,Nat.zero_le _,rfl,fun j hj=>absurd hj (Nat.not_lt_zero _),hb⟩
     case round=>
      obtain⟨m,hm,rfl,HB,q⟩:=hrel;by_cases y:m<3
      ·have hs:=O m _ (hP.below q) y;have HY:Hid (endR rs (dec.getD m 0)=false→E=10):=fun h=>by
        have:z4C rs dec=false:=by
         cases he:z4C rs dec with
         |false=>rfl
         |true=>
          rw[(z1C rs dec).1 he m y]at h;exact absurd h (by decide)
        rw[A.out,this];rfl
       have HN:Hid (endR rs (dec.getD m 0)=true→∀j,j<m+1→endR rs (dec.getD j 0)=true):=fun h j hj=>by
        by_cases G:j=m
        ·subst G;exact h
        ·exact HB.out j (by omega)
       clear HB;generalize endR rs (dec.getD m 0)=X at*;have U:(m:Int)<3:=by omega
       go_wp2_with fail
       refine hs.mono ?_;rintro e w5 ⟨rfl,s⟩;replace q:=q.trans (s.mono q.size);clear hs s
       cases X with
       |false=>
        have E2:Hid (E=10):=HY.out rfl;clear HY HN A
        go_wp2
        go_ret;exact⟨by rw[E2.out];rfl,hB.trans (q.mono hB.size)⟩
       |true=>
        have R:=HN.out rfl;have HR:Hid _:=R;clear HY HN R
        go_wp2
        go_roundw
        case rel=>exact⟨m+1,by omega,by go_num,HR.out,q⟩
        case measure=>simp[intOf];omega
      ·have I:m=3:=by omega
       subst I;have E2:Hid (E=0):=by rw[A.out,(z1C rs dec).2 HB.out];rfl
       clear HB A
       go_wp2
       go_ret;exact⟨by rw[E2.out];rfl,hB.trans (q.mono hB.size)⟩
  |false=>
   go_wp2_with fail
   refine ab.mono ?_;rintro e w2 ⟨rfl,ai⟩;replace hP:=hP.below ai;have hB:=N.trans (ai.mono N.size);clear ab c0 c1 c2 c3 r0;by_cases hC:0<C
   ·have E2:Hid (E=10):=show _=_ by rw[D.out];simp[hC]
    clear D
    go_wp2
    go_ret;exact⟨by rw[E2.out];rfl,hB⟩
   ·have z:Hid (E=if(List.range d.length).all (z6Q false rs) && z4C rs dec then 0 else 10):=show _=_ by rw[D.out];simp[hC]
    clear D
    go_wp2
    go_loopw[4] (fun j wr=>∃k:Nat,k≤d.length∧j=.int .i64 k∧Hid (∀j,j<k→z6Q false rs j=true)∧Below w2.heap.size w2 wr) (fun j _=>d.length-(intOf j).toNat)
    case atStart=>exact⟨0,Nat.zero_le _,rfl,fun j hj=>absurd hj (Nat.not_lt_zero _),Below.refl _ _⟩
    case round=>
     obtain⟨k,hk,rfl,HA,hb⟩:=hrel;have aa:=hP.below hb;obtain⟨c0,c1,c2,c3⟩:=aa.box;dsimp only at c0 c1 c2 c3;by_cases T:k<d.length
     ·go_wp2
      clear c0 c1 c2 c3;go_loopw[5] (fun j wx=>∃m:Nat,m≤3∧j=.int .i64 m∧Hid (∀j,j<m→sayM false rs k j=true)∧Below w2.heap.size w2 wx) (fun j _=>3-(intOf j).toNat)
      case atStart=>exact⟨0,Nat.zero_le _,rfl,fun j hj=>absurd hj (Nat.not_lt_zero _),hb⟩
      case round=>
       obtain⟨m,hm,rfl,HB,q⟩:=hrel;by_cases y:m<3
       ·have hs:=J k m _ (hP.below q) T y;have HY:Hid (sayM false rs k m=false→E=10):=fun h=>by rw[z.out,←W.out,z8c (by rw[W.out];exact T) y h];rfl
        have HN:Hid (sayM false rs k m=true→∀j,j<m+1→sayM false rs k j=true):=fun h j hj=>by
         by_cases G:j=m
         ·subst G;exact h
         ·exact HB.out j (by omega)
        clear HB;generalize sayM false rs k m=X at*;have U:(m:Int)<3:=by omega
        go_wp2_with fail
        refine hs.mono ?_;rintro e w5 ⟨rfl,s⟩;replace q:=q.trans (s.mono q.size);clear hs s
        cases X with
        |false=>
         have E2:Hid (E=10):=HY.out rfl;clear HY HN z
         go_wp2
         go_ret;exact⟨by rw[E2.out];rfl,hB.trans (q.mono hB.size)⟩
        |true=>
         have R:=HN.out rfl;have HR:Hid _:=R;clear HY HN R
         go_wp2
         go_roundw
         case rel=>exact⟨m+1,by omega,by go_num,HR.out,q⟩
         case measure=>simp[intOf];omega
       ·have I:m=3:=by omega
        subst I;have HR:Hid (∀j,j<k+1→z6Q false rs j=true):=fun j hj=>by
         by_cases ad:j=k
         ·subst ad;exact(z3O false rs j).2 HB.out
         ·exact HA.out j (by omega)
        clear HA HB
        go_wp2
        go_roundw
        case rel=>exact⟨k+1,by omega,by go_num,HR.out,q⟩
        case measure=>simp[intOf];omega
     ·have ae:k=d.length:=by omega
      subst ae;have A:Hid (E=if z4C rs dec then 0 else 10):=by
       have e:(List.range d.length).all (z6Q false rs)=true:=by
        rw[List.all_eq_true];intro x hx;exact HA.out x (List.mem_range.1 hx)
       rw[z.out,e];exact(rfl:_=_)
      clear HA z
      go_wp2
      clear c0 c1 c2 c3;go_loopw[6] (fun j wx=>∃m:Nat,m≤3∧j=.int .i64 m∧Hid (∀j,j<m→endR rs (dec.getD j 0)=true)∧Below w2.heap.size w2 wx) (fun j _=>3-(intOf j).toNat)
      case atStart=>exact⟨0,Nat.zero_le _,rfl,fun j hj=>absurd hj (Nat.not_lt_zero _),hb⟩
      case round=>
       obtain⟨m,hm,rfl,HB,q⟩:=hrel;by_cases y:m<3
       ·have hs:=O m _ (hP.below q) y;have HY:Hid (endR rs (dec.getD m 0)=false→E=10):=fun h=>by
         have:z4C rs dec=false:=by
          cases he:z4C rs dec with
          |false=>rfl
          |true=>
           rw[(z1C rs dec).1 he m y]at h;exact absurd h (by decide)
         rw[A.out,this];rfl
        have HN:Hid (endR rs (dec.getD m 0)=true→∀j,j<m+1→endR rs (dec.getD j 0)=true):=fun h j hj=>by
         by_cases G:j=m
         ·subst G;exact h
         ·exact HB.out j (by omega)
        clear HB;generalize endR rs (dec.getD m 0)=X at*;have U:(m:Int)<3:=by omega
        go_wp2_with fail
        refine hs.mono ?_;rintro e w5 ⟨rfl,s⟩;replace q:=q.trans (s.mono q.size);clear hs s
        cases X with
        |false=>
         have E2:Hid (E=10):=HY.out rfl;clear HY HN A
         go_wp2
         go_ret;exact⟨by rw[E2.out];rfl,hB.trans (q.mono hB.size)⟩
        |true=>
         have R:=HN.out rfl;have HR:Hid _:=R;clear HY HN R
         go_wp2
         go_roundw
         case rel=>exact⟨m+1,by omega,by go_num,HR.out,q⟩
         case measure=>simp[intOf];omega
       ·have I:m=3:=by omega
        subst I;have E2:Hid (E=0):=by rw[A.out,(z1C rs dec).2 HB.out];rfl
        clear HB A
        go_wp2
        go_ret;exact⟨by rw[E2.out];rfl,hB.trans (q.mono hB.size)⟩
 ·have E2:Hid (E=shpF p.e):=V.out.trans (if_neg h0);have ao:(shpF p.e !=0)=true:=by simpa using h0
  clear V;generalize shpF p.e=r at*;clear h0
  go_wp2
  go_ret;exact⟨by rw[E2.out];rfl,N⟩
section
variable {ops:Array Oper} {rest:List Oper} {op:Oper} {a:Act} {w:World} {Q:Exit→Act→World→Prop}
theorem z0d(hw:Region.wanted op (yielded ops a.tmps)=true)(ty:TypeId)(x y:Operand)(ho:op.op=.store ty x y)
  (g:Nat) (c:Array Value) (hx:a.eval x=.pointer (some ⟨g,0,none⟩)) (hy:a.eval y=.agg c)
  (t:TypeId) (d:Array Value) (hg:w.heap[g]?=some (.cells d t (0,0))) (hi:(Tryz.prog.info? ty).map (·.size)=some c.size)
  (q:d.size=c.size) (h1:c.all (·.oneCell')=true)
  (h:wpList Tryz.prog ops Q rest (a.put op.dst undef) (w.setRow g c)):wpList Tryz.prog ops Q (op::rest) a w:=by
 simp only[wpList];rw[if_pos hw];exact Or.inl (wp_store_row ty x y ho g c hx hy t d hg hi q h1 h)
end
theorem Blk.row{w:World}{b:Nat}{t:TypeId}{old:Array Value}(h:Blk w b t old)(cs:Array Value):Blk (w.setRow b cs) b t cs:=setRow_heap w b old cs t _ h
theorem z0c{B:Nat}{a w:World}(h:Below B a w){g:Nat}(hg:B≤g)(cs:Array Value):Below B a (w.setRow g cs):=
 ⟨h.os,h.tape,h.output,by rw[setRow_size];exact h.size,fun k hk=>(setRow_other w g k cs (by omega)).trans (h.block k hk)⟩
theorem z8d(zs:List Int):(zs.map iv).toArray.all (·.oneCell')=true:=all_oneCell_toArray (fun v hv=>by obtain⟨z,_,rfl⟩:=List.mem_map.1 hv;rfl)
theorem z8e{q:RoundE}(h:q.rep.length=3∧q.pro.length=3):∀j v,(q.pro.map iv)[j]?=some v→(z02 q)[3+j]?=some v:=by
 intro j v hv;obtain⟨hj,rfl⟩:=row_get h.2 hv;exact z6W h j hj
theorem z5U(rs:List RoundE)(v:Int)(w:World)(h:Wel rs)(h4:rs.length≤4):
  Calls Tryz.prog 199 #[.agg (rndC rs).toArray,.int .i64 v] w fun e w'=>e=.returned (.bool (agr rs v))∧Below w.heap.size w w':=by
 have B:=Blk.new w 153 (rndC rs).toArray;have y:Below w.heap.size w (w.alloc (.cells (rndC rs).toArray 153)):=by go_grown
 have hc:=z6o rs;have aa:(rs.length:Int)≤4:=by omega
 generalize hE:agr rs v=E;have HE:Hid (E=agr rs v):=hE.symm;clear hE;have N:Hid (∀r,r<rs.length→∀j v,(z02 (rs.getD r rnd0))[j]?=some v→(rndC rs)[1+r*6+j]?=some v):=fun r hr j v hv=>by
  have hj:=(List.getElem?_eq_some_iff.1 hv).1;rw[z0S (z1o h r hr)]at hj;rw[z6X h r hr j hj];exact hv
 generalize rndC rs=ds at*;go_enter Tryz.func199,Tryz.ntmps199
 go_wp2
 clear hc;generalize w.alloc (.cells ds.toArray 153)=W at*;go_loopw[12] (fun j wr=>∃k:Nat,k≤rs.length∧j=.int .i64 k∧Hid (∀j,j<k→cnt 7 (rs.getD j rnd0).pro v<2)∧Below W.heap.size W wr) (fun j _=>rs.length-(intOf j).toNat)
 case atStart=>exact⟨0,Nat.zero_le _,rfl,fun j hj=>absurd hj (Nat.not_lt_zero _),Below.refl _ _⟩
 case round=>
  obtain⟨k,hk,rfl,HA,hb⟩:=hrel;by_cases L:k<rs.length
  ·have c:=z1o h k L;have HY:Hid (2≤cnt 7 (rs.getD k rnd0).pro v→E=true):=fun hx=>by rw[HE.out];exact z8b L hx
   have HN:Hid (cnt 7 (rs.getD k rnd0).pro v<2→∀j,j<k+1→cnt 7 (rs.getD j rnd0).pro v<2):=fun hx j hj=>by
    by_cases Y:j=k
    ·subst Y;exact hx
    ·exact HA.out j (by omega)
   have D:=rng (B.below hb) (z02 (rs.getD k rnd0)) (o:=1+k*6) (fun j v hv=>by rw[List.getElem?_toArray];exact N.out k L j v hv);clear HA;generalize rs.getD k rnd0=q at*;have s:(Tryz.prog.info? 150).map (·.size)=some (z02 q).length:=by rw[z0S c];exact z6s
   have x:(Tryz.prog.info? 150).map (·.size)=some (z02 q).toArray.size:=s;have J:=Blk.new wr 150 #[.int .i64 0,.int .i64 0,.int .i64 0,.int .i64 0,.int .i64 0,.int .i64 0];have O:=J.row (z02 q).toArray;have d:Below W.heap.size W ((wr.alloc (.cells #[.int .i64 0,.int .i64 0,.int .i64 0,.int .i64 0,.int .i64 0,.int .i64 0] 150)).setRow wr.heap.size (z02 q).toArray):=z0c (hb.alloc hb.size _) hb.size _;have G:=rng O (q.pro.map iv) (o:=3) (fun j v hv=>by rw[List.getElem?_toArray];exact z8e c j v hv);have I:(Tryz.prog.info? 148).map (·.size)=some (q.pro.map iv).length:=by rw[List.length_map,c.2];exact z1K
   have z:(#[.int .i64 0,.int .i64 0,.int .i64 0,.int .i64 0,.int .i64 0,.int .i64 0]:Array Value).size=(z02 q).toArray.size:=(show 6=(z02 q).length by rw[z0S c])
   have A:(z02 q).toArray.all (·.oneCell')=true:=z8d _;have V:=z1V q.pro
   go_wp2_with (first|(refine z5b (by kernel_rfl) 150 _ rfl _ _ rfl (z02 q) _ D Tryz.underlying150 rfl s ?_)|(refine z0d (by kernel_rfl) 150 _ _ rfl _ (z02 q).toArray rfl rfl 150 _ J x z A ?_)|(refine z5b (by kernel_rfl) 148 _ rfl _ _ rfl (q.pro.map iv) _ G Tryz.underlying148 rfl I ?_))
   clear D G s x I z A J O;generalize (wr.alloc (.cells #[.int .i64 0,.int .i64 0,.int .i64 0,.int .i64 0,.int .i64 0,.int .i64 0] 150)).setRow wr.heap.size (z02 q).toArray=W3 at*;refine(V W3 c.2).mono ?_;rintro e w4 ⟨la,lc,rfl,lO,lG,lR,T⟩;replace d:=d.trans (T.mono d.size);have X:=z1A la lc q.pro v w4 lR c.2;have U:=q0H q.pro v;have M:=z1R (vot q.pro v) w4 U;rw[z98]at M;generalize vot q.pro v=m at*;generalize cnt 7 q.pro v=C at*;clear V lO lG lR T hb U
   go_wp2_with fail
   refine X.mono ?_;rintro e w' ⟨rfl,hw⟩;replace hw:=hw.symm;subst hw
   go_wp2_with fail
   refine M.mono ?_;rintro e w' ⟨rfl,hw⟩;replace hw:=hw.symm;subst hw;clear X M;by_cases hC:2≤C
   ·have E2:Hid (E=true):=HY.out hC;clear HY HN HE N
    go_wp2
    go_ret;exact⟨by rw[E2.out];rfl,y.trans (d.mono y.size)⟩
   ·have R:=HN.out (by omega);have HR:Hid _:=R;clear HY HN R
    go_wp2
    go_roundw
    case rel=>exact⟨k+1,by omega,by go_num,HR.out,d⟩
    case measure=>simp[intOf];omega
  ·have Z:k=rs.length:=by omega
   subst Z;have E2:Hid (E=false):=by rw[HE.out];exact z5d HA.out
   clear HA HE
   go_wp2
   go_ret;exact⟨by rw[E2.out];rfl,y.trans (hb.mono y.size)⟩
theorem z8f{has:Bool}{rs:List RoundE}{r n:Nat}(hr:r<rs.length)(hn:n<3)(h:repI has rs r n=false∨proR rs r n=false):(List.range rs.length).all (z7N has rs)=false:=by
 rw[List.all_eq_false];refine⟨r,List.mem_range.2 hr,?_⟩;intro e;have:=(z2I has rs r).1 e n hn;rcases h with h|h
 ·rw[this.1]at h;exact absurd h (by decide)
 ·rw[this.2]at h;exact absurd h (by decide)
theorem z99{rs:List RoundE}{dec:List Int}{n:Nat}(hn:n<3)(h:endR rs (dec.getD n 0)=false):z4C rs dec=false:=by
 cases he:z4C rs dec with
 |false=>rfl
 |true=>
  rw[(z1C rs dec).1 he n hn]at h;exact absurd h (by decide)
theorem z2e{w w':World}{b o:Nat}{L:List Value}(h:w.rangeAt b o L)(hb:Below w.heap.size w w'):w'.rangeAt b o L:=fun j v hv=>by
 have h1:=h j v hv;rw[hb.cell (p:=⟨b,o+j,none⟩) (World.block_lt_of_cell? w _ h1)];exact h1
theorem idx0(x y z:Int)(w:World):(Instr.index 148 (.agg #[.int .i64 x,.int .i64 y,.int .i64 z]) (.int .i64 0)).run Tryz.prog w=.ok (.int .i64 x) w:=by kernel_rfl
theorem idx1(x y z:Int)(w:World):(Instr.index 148 (.agg #[.int .i64 x,.int .i64 y,.int .i64 z]) (.int .i64 1)).run Tryz.prog w=.ok (.int .i64 y) w:=by kernel_rfl
theorem idx2(x y z:Int)(w:World):(Instr.index 148 (.agg #[.int .i64 x,.int .i64 y,.int .i64 z]) (.int .i64 2)).run Tryz.prog w=.ok (.int .i64 z) w:=by kernel_rfl
theorem z8g{zs:List Int}(h3:zs.length=3)(m:Nat)(hm:m<3)(w:World):(Instr.index 148 (.agg (zs.map iv).toArray) (.int .i64 (m:Int))).run Tryz.prog w=.ok (.int .i64 (zs.getD m 0)) w:=by
 obtain⟨x,y,z,rfl⟩:=z4D h3;have:m=0∨m=1∨m=2:=by omega
 rcases this with rfl|rfl|rfl
 ·exact idx0 x y z w
 ·exact idx1 x y z w
 ·exact idx2 x y z w
theorem z6u(has:Bool)(vb:Value)(rs:List RoundE)(dec:List Int)(w:World)(hG:Rul w)(h:Wel rs)(h4:rs.length≤4)(hd:dec.length=3):
  Calls Tryz.prog 159 #[.agg (brdC has vb rs dec).toArray] w fun e w'=>e=.returned (.bool ((List.range rs.length).all (z7N has rs) && z4C rs dec))∧Below w.heap.size w w':=by
 have B:=Blk.new w 155 (brdC has vb rs dec).toArray;have d:Below w.heap.size w (w.alloc (.cells (brdC has vb rs dec).toArray 155)):=by go_grown
 have hc:(brdC has vb rs dec)[0]?=some (iv rs.length):=by rw[z4f h h4 0 (by omega)];rfl
 have O:=rng B (brdC has vb rs dec) (o:=0) (fun j v hv=>by rw[Nat.zero_add,List.getElem?_toArray];exact hv);have D:=z29 h h4 B;have T:=rng B (dec.map iv) (o:=27) (fun j v hv=>by
  obtain⟨hj,rfl⟩:=row_get hd hv;rw[List.getElem?_toArray];exact z6r h h4 hd j hj)
 have V:(Tryz.prog.info? 155).map (·.size)=some (brdC has vb rs dec).length:=by rw[z2z h h4 hd];exact z2M
 have G:(Tryz.prog.info? 153).map (·.size)=some (rndC rs).length:=by rw[z0t h h4];exact z2c
 have Z:(Tryz.prog.info? 148).map (·.size)=some (dec.map iv).length:=by rw[List.length_map,hd];exact z1K
 have U:=fun r n w hG hr hn=>z3a has vb rs dec r n w hG h h4 hd hr hn
 have N:=fun r n w hG hr hn=>z4g rs r n w hG h h4 hr hn
 have ab:=fun v w=>z5U rs v w h h4
 generalize hE:((List.range rs.length).all (z7N has rs) && z4C rs dec)=E;have HE:Hid (E=((List.range rs.length).all (z7N has rs) && z4C rs dec)):=hE.symm;clear hE h B;generalize brdC has vb rs dec=cs at*;generalize rndC rs=ds at*;go_enter Tryz.func159,Tryz.ntmps159
 go_wp2
 clear hc;generalize w.alloc (.cells cs.toArray 155)=W at*;replace hG:=hG.below d;go_loopw[10] (fun j wr=>∃k:Nat,k≤rs.length∧j=.int .i64 k∧Hid (∀j,j<k→z7N has rs j=true)∧Below W.heap.size W wr) (fun j _=>rs.length-(intOf j).toNat)
 case atStart=>exact⟨0,Nat.zero_le _,rfl,fun j hj=>absurd hj (Nat.not_lt_zero _),Below.refl _ _⟩
 case round=>
  obtain⟨k,hk,rfl,HA,hb⟩:=hrel;by_cases C:k<rs.length
  ·go_wp2
   go_loopw[13] (fun j wx=>∃m:Nat,m≤3∧j=.int .i64 m∧Hid (∀j,j<m→repI has rs k j=true∧proR rs k j=true)∧Below W.heap.size W wx) (fun j _=>3-(intOf j).toNat)
   case atStart=>exact⟨0,Nat.zero_le _,rfl,fun j hj=>absurd hj (Nat.not_lt_zero _),hb⟩
   case round=>
    obtain⟨m,hm,rfl,HB,c⟩:=hrel;by_cases q:m<3
    ·have M:(m:Int)<3:=by omega
     have HX:Hid (repI has rs k m=false→E=false):=fun hx=>by rw[HE.out,z8f C q (Or.inl hx)];rfl
     have HY:Hid (proR rs k m=false→E=false):=fun hx=>by rw[HE.out,z8f C q (Or.inr hx)];rfl
     have HN:Hid (repI has rs k m=true→proR rs k m=true→∀j,j<m+1→repI has rs k j=true∧proR rs k j=true):=fun h1 h2 j hj=>by
      by_cases I:j=m
      ·subst I;exact⟨h1,h2⟩
      ·exact HB.out j (by omega)
     have h1:=U k m _ (hG.below c) C q;have h2:=fun w hG=>N k m w hG C q
     have y:=z2e O c;clear HB;generalize repI has rs k m=X at*;generalize proR rs k m=Y at*
     go_wp2_with (refine z5b (by kernel_rfl) 155 _ rfl _ _ rfl cs _ y Tryz.underlying155 rfl V ?_)
     clear y;refine h1.mono ?_;rintro e w5 ⟨rfl,L⟩;replace c:=c.trans (L.mono c.size);clear h1 L
     cases X with
     |false=>
      have E2:Hid (E=false):=HX.out rfl;clear HX HY HN HE HA
      go_wp2
      go_ret;exact⟨by rw[E2.out];rfl,d.trans (c.mono d.size)⟩
     |true=>
      have z:=z2e D c;have h3:=h2 w5 (hG.below c)
      go_wp2_with (refine z5b (by kernel_rfl) 153 _ rfl _ _ rfl ds _ z Tryz.underlying153 rfl G ?_)
      clear z h2;refine h3.mono ?_;rintro e w6 ⟨rfl,s⟩;replace c:=c.trans (s.mono c.size);clear h3 s
      cases Y with
      |false=>
       have E2:Hid (E=false):=HY.out rfl;clear HX HY HN HE HA
       go_wp2
       go_ret;exact⟨by rw[E2.out];rfl,d.trans (c.mono d.size)⟩
      |true=>
       have R:=HN.out (by first|rfl|trivial) (by first|rfl|trivial);have HR:Hid _:=R;clear HX HY HN R
       go_wp2
       go_roundw
       case rel=>exact⟨m+1,by omega,by go_num,HR.out,c⟩
       case measure=>simp[intOf];omega
    ·have J:m=3:=by omega
     subst J;have HR:Hid (∀j,j<k+1→z7N has rs j=true):=fun j hj=>by
      by_cases ad:j=k
      ·subst ad;exact(z2I has rs j).2 HB.out
      ·exact HA.out j (by omega)
     clear HA HB
     go_wp2
     go_roundw
     case rel=>exact⟨k+1,by omega,by go_num,HR.out,c⟩
     case measure=>simp[intOf];omega
  ·have ae:k=rs.length:=by omega
   subst ae;have A:Hid (E=z4C rs dec):=show _=_ by
    have e:(List.range rs.length).all (z7N has rs)=true:=by
     rw[List.all_eq_true];intro x hx;exact HA.out x (List.mem_range.1 hx)
    rw[HE.out,e,Bool.true_and]
   clear HA HE U N;have y:=z2e T hb
   go_wp2_with (refine z5b (by kernel_rfl) 148 _ rfl _ _ rfl (dec.map iv) _ y Tryz.underlying148 rfl Z ?_)
   clear y;go_loopw[33] (fun j wx=>∃m:Nat,m≤3∧j=.int .i64 m∧Hid (∀j,j<m→endR rs (dec.getD j 0)=true)∧Below W.heap.size W wx) (fun j _=>3-(intOf j).toNat)
   case atStart=>exact⟨0,Nat.zero_le _,rfl,fun j hj=>absurd hj (Nat.not_lt_zero _),hb⟩
   case round=>
    obtain⟨m,hm,rfl,HB,c⟩:=hrel;by_cases q:m<3
    ·have M:(m:Int)<3:=by omega
     have HY:Hid (endR rs (dec.getD m 0)=false→E=false):=fun hx=>by rw[A.out,z99 q hx]
     have HN:Hid (endR rs (dec.getD m 0)=true→∀j,j<m+1→endR rs (dec.getD j 0)=true):=fun hx j hj=>by
      by_cases I:j=m
      ·subst I;exact hx
      ·exact HB.out j (by omega)
     have HV:Hid (endR rs (dec.getD m 0)=((dec.getD m 0==3)||agr rs (dec.getD m 0))):=(rfl:_=_)
     have ag:=fun w=>z8g hd m q w
     have h1:=ab (dec.getD m 0);have z:=z2e D c;clear HB;generalize dec.getD m 0=v at*;by_cases hv:v=3
     ·have af:(v !=3)=false:=by simp[hv]
      have R:=HN.out (by rw[HV.out,hv];rfl);have HR:Hid _:=R;clear HY HN HV R hv
      go_wp2
      go_roundw
      case rel=>exact⟨m+1,by omega,by go_num,HR.out,c⟩
      case measure=>simp[intOf];omega
     ·have af:(v !=3)=true:=by simpa using hv
      have aa:(v==3)=false:=by simpa using hv
      rw[aa,Bool.false_or]at HV;rw[HV.out]at HY HN;generalize agr rs v=X at*;clear HV hv aa;have h3:=h1 wr
      go_wp2_with (refine z5b (by kernel_rfl) 153 _ rfl _ _ rfl ds _ z Tryz.underlying153 rfl G ?_)
      clear z h1;refine h3.mono ?_;rintro e w6 ⟨rfl,s⟩;replace c:=c.trans (s.mono c.size);clear h3 s
      cases X with
      |false=>
       have E2:Hid (E=false):=HY.out rfl;clear HY HN A
       go_wp2
       go_ret;exact⟨by rw[E2.out];rfl,d.trans (c.mono d.size)⟩
      |true=>
       have R:=HN.out (by first|rfl|trivial);have HR:Hid _:=R;clear HY HN R
       go_wp2
       go_roundw
       case rel=>exact⟨m+1,by omega,by go_num,HR.out,c⟩
       case measure=>simp[intOf];omega
    ·have J:m=3:=by omega
     subst J;have E2:Hid (E=true):=by rw[A.out,(z1C rs dec).2 HB.out];rfl
     clear HB A
     go_wp2
     go_ret;exact⟨by rw[E2.out];rfl,d.trans (c.mono d.size)⟩
theorem z8h(w:World)(ty g:Nat)(cur:Array Value)(b off sc:Nat)(zs:List Int)(hz:zs.length=3)(hg:w.heap[g]?=some (.cells cur 148 (0,0)))(hc:cur.size=3)(hr:Row .i64 w (some ⟨b,off,none⟩) zs):
  (Builtin.copy_ #[47,47] ty #[.slice (some ⟨g,0,none⟩) 3 3,.slice (some ⟨b,off,none⟩) 3 sc]).run Tryz.prog w=.ok (goInt 3) (w.setRow g (zs.map iv).toArray):=by
 obtain⟨i0,hi,hz0,hz1,hz2⟩:=info_parts z79;have hlen:(zs.map iv).length=3:=by simp[hz]
 have hl:=run_loadCells_list (P:=Tryz.prog) w ⟨b,off,none⟩ (zs.map iv) (z2H (z2w hr));have hst:=run_storeCells_at Tryz.prog g 0 148 (zs.map iv) 0 cur w hg (by omega) (fun v hv=>by obtain⟨z,_,rfl⟩:=List.mem_map.1 hv;rfl);have e:cur.toList.drop (zs.map iv).length=[]:=List.drop_of_length_le (by simp;omega);simp only[Nat.zero_add,Nat.add_zero,List.take_zero,List.nil_append,e,List.append_nil]at hst;rw[hlen]at hl;simp[Builtin.copy_,run_underlying Tryz.underlying47,Builtin.lenOf,Builtin.firstCells,sizeOf,typeInfo,hi,hz1,hl,hst]
theorem z5V(b off cap:Nat)(zs:List Int)(w:World)(h:Row .i64 w (some ⟨b,off,none⟩) zs)(h3:zs.length=3):
  Calls Tryz.prog 158 #[.slice (some ⟨b,off,none⟩) 3 cap] w fun e w'=>e=.returned (.agg (zs.map iv).toArray)∧Below w.heap.size w w':=by
 have hb0:Below w.heap.size w ((w.alloc (.cells #[.int .i64 0,.int .i64 0,.int .i64 0] 148)).alloc (.cells #[.int .i64 0,.int .i64 0,.int .i64 0] 148)):=by go_grown
 have C:=(Blk.new w 148 #[.int .i64 0,.int .i64 0,.int .i64 0]).below (w':=(w.alloc (.cells #[.int .i64 0,.int .i64 0,.int .i64 0] 148)).alloc (.cells #[.int .i64 0,.int .i64 0,.int .i64 0] 148)) (by go_grown);have D:=Blk.new (w.alloc (.cells #[.int .i64 0,.int .i64 0,.int .i64 0] 148)) 148 #[.int .i64 0,.int .i64 0,.int .i64 0];simp only[World.size_alloc]at D;have hcp0:=fun ty=>z8h _ ty (w.heap.size+1) _ b off cap zs h3 D rfl (h.below hb0)
 obtain⟨x,y,z,rfl⟩:=z4D h3;obtain⟨W2,hcp,D2,C2,hb2⟩:∃W2,(∀ty,(Builtin.copy_ #[47,47] ty #[.slice (some ⟨w.heap.size+1,0,none⟩) 3 3,.slice (some ⟨b,off,none⟩) 3 cap]).run Tryz.prog ((w.alloc (.cells #[.int .i64 0,.int .i64 0,.int .i64 0] 148)).alloc (.cells #[.int .i64 0,.int .i64 0,.int .i64 0] 148))=.ok (goInt 3) W2)∧Blk W2 (w.heap.size+1) 148 #[.int .i64 x,.int .i64 y,.int .i64 z]∧Blk W2 w.heap.size 148 #[.int .i64 0,.int .i64 0,.int .i64 0]∧Below w.heap.size w W2:=
  ⟨_,hcp0,D.row _,(setRow_other _ _ _ _ (by omega)).trans C,z0c hb0 (g:=w.heap.size+1) (by omega) _⟩
 obtain⟨p0,p1,p2⟩:=D2.cel3;obtain⟨q0,q1,q2⟩:=C2.cel3;obtain⟨f0,f1,f2⟩:=C2.frz3;clear C D D2 C2 hb0 h hcp0;go_enter Tryz.func158,Tryz.ntmps158
 go_wp2
 exact bodyPost_ret (v:=.agg #[.int .i64 x,.int .i64 y,.int .i64 z]) (by simp[results,Tryz.results158,go_sem,q0,q1,q2]) rfl ⟨rfl,((hb2.setCell (p:=⟨w.heap.size,0,none⟩) (Nat.le_refl _) _).setCell (p:=⟨w.heap.size,1,none⟩) (Nat.le_refl _) _).setCell (p:=⟨w.heap.size,2,none⟩) (Nat.le_refl _) _⟩
theorem z3C(b:Nat)(t:TypeId):∀ (vs:List Value) (o:Nat) (w:World) (cs:List Value),Blk w b t cs.toArray→Blk (w.setCells b o vs) b t (z08 cs o vs).toArray
 |[],_,_,_,h=>h
 |v::r,o,w,cs,h=>by
  have h1:=h.set o v;rw[List.setIfInBounds_toArray]at h1;exact z3C b t r (o+1) _ _ h1
theorem z2f(b:Nat):∀ (vs:List Value) (o:Nat) (w:World),Out [b] w (w.setCells b o vs)
 |[],_,w=>Out.refl _ w
 |v::r,o,w=>(Out.setCell w b o v).trans (z2f b r (o+1) _)
theorem z6v(A B C Y:List Value)(h:B.length=Y.length):z08 (A++(B++C)) A.length Y=A++(Y++C):=by
 apply List.ext_getElem?;intro j;by_cases hj:j<(A++(B++C)).length
 ·rw[z2v _ _ _ _ hj];simp only[List.length_append]at hj;by_cases h1:A.length≤j∧j<A.length+Y.length
  ·rw[if_pos h1,List.getElem?_append_right h1.1,List.getElem?_append_left (by omega)]
  ·rw[if_neg h1];by_cases h2:j<A.length
   ·rw[List.getElem?_append_left h2,List.getElem?_append_left h2]
   ·rw[List.getElem?_append_right (by omega),List.getElem?_append_right (by omega),List.getElem?_append_right (by omega),List.getElem?_append_right (by omega),h]
 ·rw[List.getElem?_eq_none (by rw[z1F];omega),List.getElem?_eq_none (by simp only[List.length_append]at hj⊢;omega)]
theorem z7q(rs:List RoundE)(q:RoundE):z28 (rs++[q])=z28 rs++z02 q:=by simp[z28]
theorem z9g{rs:List RoundE}{q:RoundE}(tail:List Value)(h:Wel rs)(hq:q.rep.length=3∧q.pro.length=3)(h4:rs.length<4):
  (z08 (rndC rs++tail) (1+rs.length*6) (z02 q)).set 0 (iv ((rs.length:Int)+1))=rndC (rs++[q])++tail:=by
 have hl:=z2b h;have hq6:=z0S hq;have e1:rndC rs++tail=(iv rs.length::z28 rs)++(List.replicate 6 (iv 0)++(List.replicate (18-6*rs.length) (iv 0)++tail)):=by
  unfold rndC;rw[show 24-6*rs.length=6+(18-6*rs.length) by omega,←List.replicate_append_replicate];simp[List.append_assoc]
 have e2:(iv rs.length::z28 rs).length=1+rs.length*6:=by simp only[List.length_cons,hl];omega
 rw[e1,←e2,z6v _ _ _ _ (by rw[List.length_replicate,hq6])];unfold rndC;rw[z7q,List.length_append,List.length_singleton,show 24-6*(rs.length+1)=18-6*rs.length by omega];simp[List.append_assoc]
structure LatR (b g:Nat) (w:World) where
 val:World
 cnt:val.cell? ⟨b,0,none⟩=w.cell? ⟨b,0,none⟩
 box:val.heap[g]?=w.heap[g]?
theorem z3D(b:Nat)(t:TypeId)(rs:List RoundE)(d:List Value)(q:RoundE)(w:World)(hB:Blk w b t (rndC rs++d).toArray)(h:Wel rs)(hq:q.rep.length=3∧q.pro.length=3)(h4:rs.length<4):
  Calls Tryz.prog 152 #[.pointer (some ⟨b,0,none⟩),.agg (z02 q).toArray] w fun e w'=>e=.returned (.tuple #[])∧Blk w' b t (rndC (rs++[q])++d).toArray∧Out [b] w w':=by
 have ab:=hB.lt;have M:Below w.heap.size w (w.alloc (.cells (z02 q).toArray 150)):=by go_grown
 have G:=Blk.new w 150 (z02 q).toArray;replace hB:=hB.below M;have z:(w.alloc (.cells (z02 q).toArray 150)).cell? ⟨b,0,none⟩=some (iv rs.length):=hB.cell 0 _ rfl;have N:(z02 q).toArray.all (·.oneCell')=true:=z8d _;have I:(Tryz.prog.info? 150).map (·.size)=some (z02 q).length:=by rw[z0S hq];exact z6s
 have ad:=z0t h (by omega);have y:∀W':World,W'.heap[b]?=(w.alloc (.cells (z02 q).toArray 150)).heap[b]?→W'.there b (1+rs.length*6) (z02 q).toArray.size:=by
  intro W' V j hj;rw[List.size_toArray,z0S hq]at hj;have L:Blk W' b t (rndC rs++d).toArray:=V.trans hB;have Z:1+rs.length*6+j<(rndC rs++d).length:=by simp only[List.length_append];omega
  have hx:=List.getElem?_eq_getElem Z;exact⟨by rw[L.cell _ _ (by rw[List.getElem?_toArray];exact hx)];rfl,L.frozen _⟩
 have E:=z9g d h hq h4;have A:Hid ((z08 (rndC rs++d) (1+rs.length*6) (z02 q)).set 0 (iv ((rs.length:Int)+1))=rndC (rs++[q])++d):=E;clear E;generalize rndC (rs++[q])++d=es at*;generalize rndC rs++d=cs at*;have ae:(rs.length:Int)<4:=by omega
 generalize rs.length=c at*;go_enter Tryz.func152,Tryz.ntmps152
 go_wp2_with fail
 generalize w.alloc (.cells (z02 q).toArray 150)=W at*;have r:W.drew.cell? ⟨b,0,none⟩=W.cell? ⟨b,0,none⟩:=rfl;have s:W.drew.heap[w.heap.size]?=W.heap[w.heap.size]?:=rfl;have aa:Nonempty (LatR b w.heap.size W):=⟨⟨W,rfl,rfl⟩⟩
 have k0:∀u:LatR b w.heap.size W,u.val.cell? ⟨b,0,none⟩=some (iv c):=fun u=>u.cnt.trans z
 have O:∀u:LatR b w.heap.size W,(Instr.loadAt 150 (.pointer (some ⟨w.heap.size,0,none⟩))).run Tryz.prog u.val=.ok (.agg (z02 q).toArray) u.val:=fun u=>by
  have hG:Blk u.val w.heap.size 150 (z02 q).toArray:=u.box.trans G;exact run_loadAt_mid u.val w.heap.size 0 150 (z02 q) _ (rng hG _ (fun j v hv=>by rw[Nat.zero_add,List.getElem?_toArray];exact hv)) Tryz.underlying150 rfl I
 refine z0b (S:=fun w'=>∃u:LatR b w.heap.size W,w'=u.val) (by kernel_rfl) ?_;refine sgr [(0,2)] 8 (by kernel_rfl) ⟨⟨_,r,s⟩,rfl⟩ ?_;simp only[pkE];repeat go_big_quiet_step (fail)
 refine wpQuiet_nil ?_;refine qta 2 (some 6) (.pointer (some ⟨b,0,none⟩)) 7 (by kernel_rfl) (fun u _=>by kernel_rfl) ⟨⟨_,r,s⟩,rfl⟩ ?_;simp only[Act.put,pjE];refine sgr [(3,2)] 5 (by kernel_rfl) ⟨⟨_,r,s⟩,rfl⟩ ?_;simp only[pkE];repeat go_big_quiet_step (fail)
 refine wpQuiet_nil ?_;refine qta 5 (some 9) (.agg (z02 q).toArray) 4 (by kernel_rfl) (fun u hu=>?_) ⟨⟨_,r,s⟩,rfl⟩ ?_
 ·obtain⟨u,rfl⟩:=hu;show some (((Instr.loadAt 150 (.pointer (some ⟨w.heap.size,0,none⟩)))>>=fun x=>pure (Next.value x):Sem Next).run Tryz.prog u.val)=_;rw[Sem.run_bind,O u];rfl
 simp only[Act.put,pjE];refine qta 6 (some 10) (.pointer (some ⟨b,0,none⟩)) 3 (by kernel_rfl) (fun u _=>by kernel_rfl) ⟨⟨_,r,s⟩,rfl⟩ ?_;simp only[Act.put,pjE];refine sgr [(7,2)] 1 (by kernel_rfl) ⟨⟨_,r,s⟩,rfl⟩ ?_;simp only[pkE];repeat go_big_quiet_step (fail)
 refine wpQuiet_nil ?_;refine ona 9 0 rfl (by kernel_rfl) ?_;refine st_g (by kernel_rfl) 150 _ _ rfl b (1+c*6) (z02 q).toArray rfl rfl (y _ rfl) I N ?_;have D:Blk (W.drew.setCells b (1+c*6) (z02 q)) b t (z08 cs (1+c*6) (z02 q)).toArray:=z3C b t (z02 q) (1+c*6) W.drew cs hB;have U:Out [b] w (W.drew.setCells b (1+c*6) (z02 q)):=(Out.of_below M).trans ((Out.of_below ((Below.refl _ _).drew)).trans (z2f b (z02 q) (1+c*6) W.drew));have Y:w.heap.size≠b:=by omega
 have C:(W.drew.setCells b (1+c*6) (z02 q)).heap[w.heap.size]?=W.heap[w.heap.size]?:=((z2f b (z02 q) (1+c*6) W.drew).block _ G.lt (by simp only[List.mem_singleton];exact Y))
 have J:(W.drew.setCells b (1+c*6) (z02 q)).cell? ⟨b,0,none⟩=W.cell? ⟨b,0,none⟩:=World.cell?_setCells_out b (z02 q) (1+c*6) W.drew ⟨b,0,none⟩ (fun _ _=>Or.inl (by show 0<1+c*6;omega));refine ThenGo.to ⟨⟨⟨_,J,C⟩,rfl⟩,?_⟩;refine z0e (by kernel_rfl) ?_;have T:=J.trans z;have af:=D.frozen 0;have F:=D.set 0 (iv ((c:Int)+1));rw[List.setIfInBounds_toArray,A.out]at F;have U2:=U.set (b:=b) (j:=0) (u:=iv ((c:Int)+1)) (by simp);have HF:Hid (Blk _ b t es.toArray∧Out [b] w _):=And.intro F U2;clear F U2 D U J C s r k0 O aa y A;generalize W.drew.setCells b (1+c*6) (z02 q)=X at*
 go_wp2
 go_end0
 exact⟨rfl,HF.out⟩
def z01:Act→List (Option Tmp)→List Value→Act
 |a,d::ds,v::vs=>z01 (a.put d v) ds vs
 |a,_,_=>a
section
variable {P:Program} {ops:Array Oper} {Q:Exit→Act→World→Prop}
theorem z0T{id:Nat}{a:Act}{w:World}(ds:List (Option Tmp))(R:List Value→World→Prop)
  (hreg:(Code.region id ops true).wp P (fun e a' w'=>e=.normal∧∃vs,R vs w'∧a'=z01 a ds vs) a w) (himp:∀vs w',R vs w'→Q .normal (z01 a ds vs) w'):(Code.region id ops true).wp P Q a w:=by
 refine Code.wp_mono ?_ hreg;rintro e a' w' ⟨rfl,vs,hR,rfl⟩;exact himp vs w' hR
end
structure LatO (F:List Nat) (w:World) where
 val:World
 isOut:Out F w val
theorem z0g{F:List Nat}{w:World}{b o:Nat}{v:Value}(h:w.cell? ⟨b,o,none⟩=some v)(hF:b∉F):∀u:LatO F w,u.val.cell? ⟨b,o,none⟩=some v:=fun u=>by
 have hb:=World.block_lt_of_cell? w _ h;have e:=u.isOut.block b hb hF;unfold World.cell? at h⊢;simp only at h⊢;rw[e];exact h
end Go.Proofs.YtciofogeiohleaaGreatDoor

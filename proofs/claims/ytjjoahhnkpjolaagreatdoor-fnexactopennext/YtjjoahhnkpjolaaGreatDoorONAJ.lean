import Derived.Test.YtjjoahhnkpjolaaGreatDoorONAH
set_option linter.unusedVariables false
set_option linter.unusedSimpArgs false
set_option maxRecDepth 100000
set_option maxHeartbeats 4000000
namespace Go.Proofs.YtjjoahhnkpjolaaGreatDoor
open Go.RowKit Go.BigFrame
open Act renaming put->m
open IntKind renaming i64->F
open Value renaming int->H,slice->l
open Go.Proofs.Tryz renaming prog->K
open Go.Proofs.Tryz
abbrev iv(n:Int):Value:=H F n
def Wel(rs:List RoundE):Prop:=∀r∈rs,r.rep.length=3∧r.pro.length=3
def z1e(r:RoundE):List Value:=(r.rep++r.pro).map iv
def z4k(rs:List RoundE):List Value:=rs.flatMap z1e
def rndC(rs:List RoundE):List Value:=iv rs.length::(z4k rs++List.replicate (24-6*rs.length) (iv 0))
def brdC(has:Bool)(vb:Value)(rs:List RoundE)(dec:List Int):List Value:=rndC rs++([.bool has,vb]++dec.map iv)
theorem z00{r:RoundE}(h:r.rep.length=3∧r.pro.length=3):(z1e r).length=6:=by simp[z1e,h.1,h.2]
theorem z2I{rs:List RoundE}(h:Wel rs):(z4k rs).length=rs.length*6:=by
 induction rs with
 |nil=>rfl
 |cons r t ih=>
  have h1:=ih (fun x hx=>h x (List.mem_cons_of_mem _ hx));have h2:=z00 (h r (by simp));simp only[z4k,List.flatMap_cons,List.length_append,List.length_cons]at h1⊢;omega
theorem z0u{rs:List RoundE}(h:Wel rs)(h4:rs.length≤4):(rndC rs).length=25:=by
 have:=z2I h;simp only[rndC,List.length_cons,List.length_append,List.length_replicate];omega
theorem z3A{has:Bool}{vb:Value}{rs:List RoundE}{dec:List Int}(h:Wel rs)(h4:rs.length≤4)(hd:dec.length=3):(brdC has vb rs dec).length=30:=by
 have:=z0u h h4;simp only[brdC,List.length_append,List.length_cons,List.length_nil,List.length_map];omega
theorem q2h{rs:List RoundE}(h:Wel rs)(r:Nat)(hr:r<rs.length)(j:Nat)(hj:j<6):(z4k rs)[r*6+j]?=(z1e (rs.getD r z0I))[j]?:=by
 induction rs generalizing r with
 |nil=>simp at hr
 |cons q t ih=>
  have hq:=z00 (h q (by simp));simp only[z4k,List.flatMap_cons]
  cases r with
  |zero=>
   rw[List.getElem?_append_left (by omega)];simp
  |succ r=>
   rw[List.getElem?_append_right (by omega),hq,show(r+1)*6+j-6=r*6+j by omega];have:=ih (fun x hx=>h x (List.mem_cons_of_mem _ hx)) r (by simpa using hr);simpa[z4k]using this
theorem z2J{rs:List RoundE}(h:Wel rs)(r:Nat)(hr:r<rs.length):(rs.getD r z0I).rep.length=3∧(rs.getD r z0I).pro.length=3:=by
 have e:rs.getD r z0I=rs[r]:=by simp[List.getD,hr]
 rw[e];exact h _ (List.getElem_mem hr)
theorem q3P{q:RoundE}(h:q.rep.length=3∧q.pro.length=3)(n:Nat)(hn:n<3):(z1e q)[n]?=some (iv (q.rep.getD n 0)):=by
 unfold z1e;rw[List.getElem?_map,List.getElem?_append_left (by omega),List.getElem?_eq_getElem (by omega)];simp[List.getD,show n<q.rep.length by omega]
theorem q0f{q:RoundE}(h:q.rep.length=3∧q.pro.length=3)(n:Nat)(hn:n<3):(z1e q)[3+n]?=some (iv (q.pro.getD n 0)):=by
 unfold z1e;rw[List.getElem?_map,List.getElem?_append_right (by omega),h.1,show 3+n-3=n by omega,List.getElem?_eq_getElem (by omega)];simp[List.getD,show n<q.pro.length by omega]
theorem z9s(rs:List RoundE):(rndC rs)[0]?=some (iv rs.length):=rfl
theorem q0g{rs:List RoundE}(h:Wel rs)(r:Nat)(hr:r<rs.length)(j:Nat)(hj:j<6):(rndC rs)[1+r*6+j]?=(z1e (rs.getD r z0I))[j]?:=by
 have hl:=z2I h;unfold rndC;rw[show 1+r*6+j=(r*6+j)+1 by omega,List.getElem?_cons_succ,List.getElem?_append_left (by omega),q2h h r hr j hj]
theorem z9t{rs:List RoundE}(h:Wel rs)(r:Nat)(hr:r<rs.length)(n:Nat)(hn:n<3):(rndC rs)[1+r*6+n]?=some (iv (repA rs r n)):=by
 rw[q0g h r hr n (by omega),q3P (z2J h r hr) n hn];rfl
theorem z9u{rs:List RoundE}(h:Wel rs)(r:Nat)(hr:r<rs.length)(n:Nat)(hn:n<3):(rndC rs)[1+r*6+3+n]?=some (iv (proA rs r n)):=by
 rw[show 1+r*6+3+n=1+r*6+(3+n) by omega,q0g h r hr (3+n) (by omega),q0f (z2J h r hr) n hn];rfl
theorem z5z{has:Bool}{vb:Value}{rs:List RoundE}{dec:List Int}(h:Wel rs)(h4:rs.length≤4)(j:Nat)(hj:j<25):(brdC has vb rs dec)[j]?=(rndC rs)[j]?:=by
 have:=z0u h h4;unfold brdC;rw[List.getElem?_append_left (by omega)]
theorem q2i{has:Bool}{vb:Value}{rs:List RoundE}{dec:List Int}(h:Wel rs)(h4:rs.length≤4):(brdC has vb rs dec)[25]?=some (.bool has):=by
 have:=z0u h h4;unfold brdC;rw[List.getElem?_append_right (by omega),this];rfl
theorem q5h{has:Bool}{vb:Value}{rs:List RoundE}{dec:List Int}(h:Wel rs)(h4:rs.length≤4):(brdC has vb rs dec)[26]?=some vb:=by
 have:=z0u h h4;unfold brdC;rw[List.getElem?_append_right (by omega),this];rfl
theorem z9v{has:Bool}{vb:Value}{rs:List RoundE}{dec:List Int}(h:Wel rs)(h4:rs.length≤4)(hd:dec.length=3)(n:Nat)(hn:n<3):(brdC has vb rs dec)[27+n]?=some (iv (dec.getD n 0)):=by
 have:=z0u h h4;unfold brdC;rw[List.getElem?_append_right (by omega),this,show 27+n-25=n+2 by omega];simp[List.getD,show n<dec.length by omega]
theorem z2K:(K.info? 136).map (·.size)=some 25:=by kernel_rfl
theorem z3T:(K.info? 138).map (·.size)=some 30:=by kernel_rfl
theorem z18:(K.info? 131).map (·.size)=some 3:=by kernel_rfl
theorem z9w:(K.info? 133).map (·.size)=some 6:=by kernel_rfl
theorem rng{w:World}{b o:Nat}{t:TypeId}{cs:Array Value}(hB:Blk w b t cs)(L:List Value)(h:∀j v,L[j]?=some v→cs[o+j]?=some v):w.rangeAt b o L:=fun j v hv=>hB.cell (o+j) v (h j v hv)
theorem q56{w:World}{b o:Nat}(L:List Value)(ty:TypeId)(d:TypeDesc)(hr:w.rangeAt b o L)(hlt:b<w.heap.size)(hu:K.underlying ty=some d)(hd:d.isRow=true)(hi:(K.info? ty).map (·.size)=some L.length):
  ∀u:Lat w,(Instr.loadAt ty (.pointer (some ⟨b,o,none⟩))).run K u.val=.ok (.agg L.toArray) u.val:=fun u=>by
 refine run_loadAt_mid u.val b o ty L d (fun j v hv=>?_) hu hd hi;rw[u.isBelow.cell (p:=⟨b,o+j,none⟩) hlt];exact hr j v hv
section
variable {ops:Array Oper} {rest:List Oper} {op:Oper} {a:Act} {w:World} {Q:Exit→Act→World→Prop}
theorem z7j(hw:Region.wanted op (yielded ops a.tmps)=true)(ty:TypeId)(x:Operand)(ho:op.op=.load ty x)
  (b o:Nat) (hx:a.eval x=.pointer (some ⟨b,o,none⟩)) (cs:List Value) (d:TypeDesc) (hc:w.rangeAt b o cs)
  (hu:K.underlying ty=some d) (hd:d.isRow=true) (hi:(K.info? ty).map (·.size)=some cs.length)
  (h:wpList K ops Q rest (a.put op.dst (.agg cs.toArray)) w):wpList K ops Q (op::rest) a w:=by
 simp only[wpList];rw[if_pos hw];exact Or.inl (wp_load_mid ty x ho b o hx cs d hc hu hd hi h)
theorem st_g(hw:Region.wanted op (yielded ops a.tmps)=true)(ty:TypeId)(x y:Operand)(ho:op.op=.store ty x y)
  (b o:Nat) (cells:Array Value) (hx:a.eval x=.pointer (some ⟨b,o,none⟩)) (hy:a.eval y=.agg cells)
  (ht:w.there b o cells.size) (hi:(K.info? ty).map (·.size)=some cells.size) (h1:cells.all (·.oneCell')=true)
  (h:wpList K ops Q rest (a.put op.dst undef) (w.setCells b o cells.toList)):wpList K ops Q (op::rest) a w:=by
 simp only[wpList];rw[if_pos hw];exact Or.inl (wp_store_mid ty x y ho b o cells hx hy ht hi h1 h)
end
theorem z3B(rs:List RoundE)(r n:Nat)(w:World)(h:Wel rs)(h4:rs.length≤4)(hr:r<rs.length)(hn:n<3):
  Calls K 204 #[.agg (rndC rs).toArray,H F (r:Int),H F (n:Int)] w fun e w'=>e=.returned (.bool (proA rs r n !=3))∧Below w.heap.size w w':=by
 have hp:=z9u h r hr n hn;have hl:=z0u h h4;generalize proA rs r n=P at*;generalize rndC rs=cs at*;have hr4:(r:Int)<4:=by omega
 have hn3:(n:Int)<3:=by omega
 go_enter func204,ntmps204
 go_wp2
 go_ret;exact⟨rfl,by go_grown⟩
theorem z7k(rs:List RoundE)(r n:Nat)(w:World)(h:Wel rs)(h4:rs.length≤4)(hn:n<3):
  Calls K 206 #[.agg (rndC rs).toArray,H F (r:Int),H F (n:Int)] w fun e w'=>e=.returned (.bool (decide (r<rs.length) && (repA rs r n !=3)))∧Below w.heap.size w w':=by
 have hc:=z9s rs;have hn3:(n:Int)<3:=by omega
 by_cases hr:r<rs.length
 ·have hp:=z9t h r hr n hn;have hr4:(r:Int)<4:=by omega
  have hd:decide (r<rs.length)=true:=decide_eq_true hr;rw[hd,Bool.true_and];generalize repA rs r n=P at*;generalize rs.length=c at*;generalize rndC rs=cs at*;clear hd;go_enter func206,ntmps206
  go_wp2
  go_ret;exact⟨rfl,by go_grown⟩
 ·have hd:decide (r<rs.length)=false:=decide_eq_false hr;rw[hd,Bool.false_and];generalize rs.length=c at*;generalize rndC rs=cs at*;clear hd;go_enter func206,ntmps206
  go_wp2
  go_ret;exact⟨rfl,by go_grown⟩
theorem q2j:(K.info? 2).map (fun i=>(i.zero,i.size,i.bytes))=some (some (H F 0),1,8):=by kernel_rfl
theorem z6J(b y cap:Nat)(zs:List Int)(w:World)(h:Row .i64 w (some ⟨b,y,none⟩) zs)(h0:0<zs.length)(hl:zs.length≤1048576):
  Calls K 145 #[l (some ⟨b,y,none⟩) zs.length cap] w fun e w'=>∃a c,e=.returned (l a zs.length c)∧
   w'.ownsRow w.heap.size 2 1 (l a zs.length c) zs.length (zs.map iv)∧Below w.heap.size w w':=by
 obtain⟨i0,hi,D,E,I⟩:=info_parts q2j;have hs:=z2U (Lies.below (z3y h) (w':=w.alloc (.cells #[] 2)) (by go_grown));have C:(zs.map iv).length=zs.length*1:=by simp
 have ho:=World.ownsRow_lit (e:=2) (size:=1) w #[] 0 (Nat.le_refl _) (by decide) rfl;have HS:Hid (∀j u,(zs.map iv)[j]?=some u→_):=hs;clear hs;have J:∀w,(binOp .eql 75 (l (some ⟨b,y,none⟩) zs.length cap) (l none 0 0)).run K w=.ok (.bool false) w:=fun w=>by first|rfl|kernel_rfl|(simp only[binOp];simp[Op.equal,Op.maxDepth,Op.equalIn,run_underlying Tryz.underlying75])
 go_enter func145,ntmps145
 go_wp2_with (at_builtin;refine wpList_append_own _ rfl _ _ 75 rfl w.heap.size 2 i0 (H F 0) 1 8 Tryz.underlying75 hi D E I rfl (by decide) _ 0 [] rfl ho ⟨b,y,none⟩ zs.length cap (zs.map iv) rfl C HS.out ?c2 ?c3 ?c4 ?c5 ?_)
 all_goals try(case c2=>first|(intro u hu;obtain⟨z,_,rfl⟩:=List.mem_map.1 hu;rfl)|(intro u hu;rfl))
 all_goals try(case c3=>unfold maxLen;omega)
 all_goals try(case c4=>omega)
 all_goals try(case c5=>simp)
 intro v' w2 x d _;obtain⟨a2,c2,rfl⟩:=z0f x;have A:Below w.heap.size w w2:=((Below.refl _ _).alloc (Nat.le_refl _) _).grown d (by simp) (fun k hk=>by simp[Value.ownBlock]at hk;omega);try simp only[Nat.zero_add]at x
 clear d HS ho
 go_wp2
 go_ret;exact⟨a2,c2,rfl,by simpa using x,A⟩
theorem z5g{w':World}{base n c:Nat}{a:Option Addr}{zs:List Int}(hn:n=zs.length)(h:w'.ownsRow base 2 1 (l a n c) n (zs.map iv)):intK.Own w' (l a n c) zs∧(∀k∈intK.fp (l a n c) zs,base≤k):=by
 subst hn;obtain⟨o,hk⟩:=z0y h;refine⟨⟨by rw[z5a];exact o,fun _ _=>trivial⟩,?_⟩;rw[z3z];exact hk
theorem z2m(zs:List Int)(w:World)(h3:zs.length=3):
  Calls K 149 #[.agg (zs.map iv).toArray] w fun e w'=>∃a c,e=.returned (l a 3 c)∧intK.Own w' (l a 3 c) zs∧(∀k∈intK.fp (l a 3 c) zs,w.heap.size≤k)∧Row .i64 w' a zs∧Below w.heap.size w w':=by
 have hB:Below w.heap.size w (w.alloc (.cells (zs.map iv).toArray 131)):=by go_grown
 have hR:Row .i64 (w.alloc (.cells (zs.map iv).toArray 131)) (some ⟨w.heap.size,0,none⟩) zs:=by
  intro i hi;refine⟨_,_,rfl,by simp,?_⟩;have:=(Blk.new w 131 (zs.map iv).toArray).cell i (iv (zs.getD i 0)) (by simp[List.getD,hi]);rw[Nat.zero_add];exact this
 have hcl:=z6J w.heap.size 0 3 zs _ hR (by omega) (by omega);rw[h3]at hcl;go_enter func149,ntmps149
 go_wp2_with fail
 refine hcl.mono ?_;rintro e w2 ⟨a,c,rfl,ho,hb⟩;obtain⟨O,G⟩:=z5g h3.symm ho;have hRR:=Row.own ho;have G2:Hid (∀k∈intK.fp (l a 3 c) zs,w.heap.size≤k):=fun k hk=>Nat.le_trans (by simp) (G k hk)
 replace hB:=hB.trans (hb.mono hB.size);clear hcl ho hb G
 go_wp2
 go_ret;exact⟨a,c,rfl,O,G2.out,hRR,hB⟩
section
variable {has:Bool} {vb:Value} {rs:List RoundE} {dec:List Int} {w:World} {b:Nat} {t:TypeId}
theorem z4l (h:Wel rs) (h4:rs.length≤4) (hB:Blk w b t (brdC has vb rs dec).toArray):w.rangeAt b 0 (rndC rs):=rng hB _ (fun j v hv=>by
 have hj:=(List.getElem?_eq_some_iff.1 hv).1;rw[z0u h h4]at hj;rw[Nat.zero_add,List.getElem?_toArray,z5z h h4 j hj];exact hv)
theorem row_get{zs:List Int}(hl:zs.length=3){j:Nat}{v:Value}(hv:(zs.map iv)[j]?=some v):j<3∧v=iv (zs.getD j 0):=by
 have hj:j<zs.length:=by have:=(List.getElem?_eq_some_iff.1 hv).1;simpa using this
 refine⟨by omega,?_⟩;rw[List.getElem?_map,List.getElem?_eq_getElem hj]at hv;simp only[Option.map_some,Option.some.injEq]at hv;rw[←hv];simp[List.getD,hj]
theorem q3Q(h:Wel rs)(r:Nat)(hr:r<rs.length):∀j v,((rs.getD r z0I).pro.map iv)[j]?=some v→(rndC rs)[1+r*6+3+j]?=some v:=by
 intro j v hv;obtain⟨hj,rfl⟩:=row_get (z2J h r hr).2 hv;exact z9u h r hr j hj
theorem q3R(h:Wel rs)(r:Nat)(hr:r<rs.length):∀j v,((rs.getD r z0I).rep.map iv)[j]?=some v→(rndC rs)[1+r*6+j]?=some v:=by
 intro j v hv;obtain⟨hj,rfl⟩:=row_get (z2J h r hr).1 hv;exact z9t h r hr j hj
theorem q0h (h:Wel rs) (h4:rs.length≤4) (r:Nat) (hr:r < rs.length) (hB:Blk w b t (brdC has vb rs dec).toArray):w.rangeAt b (1 + r * 6 + 3) ((rs.getD r z0I).pro.map iv):=rng hB _ (fun j v hv=>by
 have h1:=q3Q h r hr j v hv;have hj:=(List.getElem?_eq_some_iff.1 h1).1;rw[z0u h h4]at hj;rw[List.getElem?_toArray,z5z h h4 _ hj];exact h1)
end
theorem z4m(has:Bool)(vb:Value)(rs:List RoundE)(dec:List Int)(r n:Nat)(w:World)(hG:Rul w)(h:Wel rs)(h4:rs.length≤4)(hd:dec.length=3)(hr:r<rs.length)(hn:n<3):
  Calls K 169 #[.agg (brdC has vb rs dec).toArray,H F (r:Int),H F (n:Int)] w fun e w'=>e=.returned (.bool (repI has rs r n))∧Below w.heap.size w w':=by
 have hB:=Blk.new w 138 (brdC has vb rs dec).toArray;have D:Below w.heap.size w (w.alloc (.cells (brdC has vb rs dec).toArray 138)):=by go_grown
 have c1:(brdC has vb rs dec)[1+r*6+n]?=some (iv (repA rs r n)):=by
  have h1:=z9t h r hr n hn;rw[z5z h h4 _ (by omega)];exact h1
 have c2:=q2i (has:=has) (vb:=vb) (dec:=dec) h h4;generalize hE:repI has rs r n=E;have HE:Hid (E=if repA rs r n=1∧has=false then false else if repA rs r n=3∨r=0 then true else q3w rs r n):=hE.symm;clear hE;have am:(r:Int)<4:=by omega
 have al:(n:Int)<3:=by omega
 by_cases h1:repA rs r n=1
 ·cases has with
  |false=>
   have E2:Hid (E=false):=by rw[HE.out,if_pos ⟨h1,rfl⟩];rfl
   rw[h1]at c1;clear HE hB h1;generalize brdC false vb rs dec=cs at*;go_enter func169,ntmps169
   go_wp2
   go_ret;exact⟨by rw[E2.out];rfl,D⟩
  |true=>
   have c:Hid (E=if repA rs r n=3∨r=0 then true else q3w rs r n):=by
    have:=HE.out;rw[if_neg (by simp)]at this;exact this
   rw[h1]at c1;obtain⟨R,C⟩:∃R:Int,R=1:=⟨1,rfl⟩
   have d:Hid (R=repA rs r n):=C.trans h1.symm;have ah:(R==3)=false:=by rw[C];rfl
   have ak:(R==1)=true:=by rw[C];rfl
   rw[←C]at c1;have T:¬R=3:=by omega
   clear HE h1 C;by_cases ad:r=0
   ·have E2:Hid (E=true):=by rw[c.out,if_pos (Or.inr ad)];rfl
    subst ad;simp only[Nat.zero_mul,Nat.add_zero,Nat.zero_add]at c1;clear c d;generalize brdC true vb rs dec=cs at*;go_enter func169,ntmps169
    go_wp2
    go_ret;exact⟨by rw[E2.out];rfl,D⟩
   ·obtain⟨s,rfl⟩:∃s,r=s+1:=⟨r-1,by omega⟩
    have HS:Hid (E=((proA rs s n !=3) && mayR (rs.getD s z0I).pro R)):=by rw[c.out,if_neg (by rw[←d.out];omega),d.out];exact(rfl:_=_)
    have hs:s<rs.length:=by omega
    have aa:=fun w=>z3B rs s n w h h4 hs hn
    have ae:=z4l h h4 hB;have J:(K.info? 136).map (·.size)=some (rndC rs).length:=by rw[z0u h h4];exact z2K
    have af:=z2J h s hs;have N:=z2m (rs.getD s z0I).pro;have Z:=hB.lt;have aj:¬((s:Int)+1=0):=by omega
    have x:=q0h h h4 s hs hB;have y:(K.info? 131).map (·.size)=some ((rs.getD s z0I).pro.map iv).length:=by rw[List.length_map,af.2];exact z18
    have ab:=af.2;clear c d;generalize (rs.getD s z0I).pro=qp at*;generalize proA rs s n=A at*;generalize rndC rs=ds at*;go_enter func169,ntmps169;generalize brdC true vb rs dec=cs at*
    go_wp2_with (refine z7j (by kernel_rfl) 136 _ rfl _ _ rfl ds _ ae Tryz.underlying136 rfl J ?_)
    clear ae J;generalize w.alloc (.cells cs.toArray 138)=W at*;refine(aa W).mono ?_;rintro e w1 ⟨rfl,U⟩;have L:=D.trans (U.mono D.size);clear aa;by_cases hA:A=3
    ·have E2:Hid (E=false):=by rw[HS.out,hA];rfl
     have z:(A !=3)=false:=by simp[hA]
     rw[z];clear HS N x y hA
     go_wp2
     go_ret;exact⟨by rw[E2.out];rfl,L⟩
    ·have z:(A !=3)=true:=by simpa using hA
     rw[z]at HS;rw[z];have ai:=Z;have I:w1.rangeAt w.heap.size (1+s*6+3) (qp.map iv):=fun j v hv=>by rw[U.cell (p:=⟨w.heap.size,1+s*6+3+j,none⟩) Z];exact x j v hv
     clear x hA
     go_wp2_with (refine z7j (by kernel_rfl) 131 _ rfl _ _ rfl (qp.map iv) _ I Tryz.underlying131 rfl y ?_)
     clear I y;refine(N w1 ab).mono ?_;rintro e w2 ⟨la,lc,rfl,lO,lG,lR,V⟩;have M:=L.trans (V.mono L.size);have O:=z4I la lc qp R w2 (hG.below M) lR (by omega);rw[ab]at O;generalize mayR qp R=Y at*;clear N lO lG V
     go_wp2_with fail
     refine O.mono ?_;rintro e w3 ⟨rfl,X⟩;have ag:=M.trans (X.mono M.size);clear O X;have E2:Hid (E=Y):=by rw[HS.out];exact(rfl:_=_)
     clear HS
     go_wp2
     go_ret;exact⟨by rw[E2.out];rfl,ag⟩
 ·have c:Hid (E=if repA rs r n=3∨r=0 then true else q3w rs r n):=by
   have:=HE.out;rw[if_neg (fun e=>h1 e.1)]at this;exact this
  generalize C:repA rs r n=R at c1 h1;have d:Hid (R=repA rs r n):=C.symm;have ak:(R==1)=false:=by simpa using h1
  clear HE h1 C;by_cases T:R=3
  ·have E2:Hid (E=true):=by rw[c.out,if_pos (Or.inl (by rw[←d.out];exact T))];rfl
   have ah:(R==3)=true:=by simp[T]
   clear c d T;generalize brdC has vb rs dec=cs at*;go_enter func169,ntmps169
   go_wp2
   go_ret;exact⟨by rw[E2.out];rfl,D⟩
  ·have ah:(R==3)=false:=by simpa using T
   by_cases ad:r=0
   ·have E2:Hid (E=true):=by rw[c.out,if_pos (Or.inr ad)];rfl
    subst ad;simp only[Nat.zero_mul,Nat.add_zero,Nat.zero_add]at c1;clear c d;generalize brdC has vb rs dec=cs at*;go_enter func169,ntmps169
    go_wp2
    go_ret;exact⟨by rw[E2.out];rfl,D⟩
   ·obtain⟨s,rfl⟩:∃s,r=s+1:=⟨r-1,by omega⟩
    have HS:Hid (E=((proA rs s n !=3) && mayR (rs.getD s z0I).pro R)):=by rw[c.out,if_neg (by rw[←d.out];omega),d.out];exact(rfl:_=_)
    have hs:s<rs.length:=by omega
    have aa:=fun w=>z3B rs s n w h h4 hs hn
    have ae:=z4l h h4 hB;have J:(K.info? 136).map (·.size)=some (rndC rs).length:=by rw[z0u h h4];exact z2K
    have af:=z2J h s hs;have N:=z2m (rs.getD s z0I).pro;have Z:=hB.lt;have aj:¬((s:Int)+1=0):=by omega
    have x:=q0h h h4 s hs hB;have y:(K.info? 131).map (·.size)=some ((rs.getD s z0I).pro.map iv).length:=by rw[List.length_map,af.2];exact z18
    have ab:=af.2;clear c d;generalize (rs.getD s z0I).pro=qp at*;generalize proA rs s n=A at*;generalize rndC rs=ds at*;go_enter func169,ntmps169;generalize brdC has vb rs dec=cs at*
    go_wp2_with (refine z7j (by kernel_rfl) 136 _ rfl _ _ rfl ds _ ae Tryz.underlying136 rfl J ?_)
    clear ae J;generalize w.alloc (.cells cs.toArray 138)=W at*;refine(aa W).mono ?_;rintro e w1 ⟨rfl,U⟩;have L:=D.trans (U.mono D.size);clear aa;by_cases hA:A=3
    ·have E2:Hid (E=false):=by rw[HS.out,hA];rfl
     have z:(A !=3)=false:=by simp[hA]
     rw[z];clear HS N x y hA
     go_wp2
     go_ret;exact⟨by rw[E2.out];rfl,L⟩
    ·have z:(A !=3)=true:=by simpa using hA
     rw[z]at HS;rw[z];have ai:=Z;have I:w1.rangeAt w.heap.size (1+s*6+3) (qp.map iv):=fun j v hv=>by rw[U.cell (p:=⟨w.heap.size,1+s*6+3+j,none⟩) Z];exact x j v hv
     clear x hA
     go_wp2_with (refine z7j (by kernel_rfl) 131 _ rfl _ _ rfl (qp.map iv) _ I Tryz.underlying131 rfl y ?_)
     clear I y;refine(N w1 ab).mono ?_;rintro e w2 ⟨la,lc,rfl,lO,lG,lR,V⟩;have M:=L.trans (V.mono L.size);have O:=z4I la lc qp R w2 (hG.below M) lR (by omega);rw[ab]at O;generalize mayR qp R=Y at*;clear N lO lG V
     go_wp2_with fail
     refine O.mono ?_;rintro e w3 ⟨rfl,X⟩;have ag:=M.trans (X.mono M.size);clear O X;have E2:Hid (E=Y):=by rw[HS.out];exact(rfl:_=_)
     clear HS
     go_wp2
     go_ret;exact⟨by rw[E2.out];rfl,ag⟩
theorem z5A(rs:List RoundE)(r n:Nat)(w:World)(hG:Rul w)(h:Wel rs)(h4:rs.length≤4)(hr:r<rs.length)(hn:n<3):
  Calls K 170 #[.agg (rndC rs).toArray,H F (r:Int),H F (n:Int)] w fun e w'=>e=.returned (.bool (proR rs r n))∧Below w.heap.size w w':=by
 have B:=Blk.new w 136 (rndC rs).toArray;have d:Below w.heap.size w (w.alloc (.cells (rndC rs).toArray 136)):=by go_grown
 have V:=z2J h r hr;have N:=V.1;have z:=fun w=>z3B rs r n w h h4 hr hn
 have y:=fun w=>z7k rs r n w h h4 hn
 rw[decide_eq_true hr]at y;simp only[Bool.true_and]at y;have I:=z2m (rs.getD r z0I).rep;have C:=fun la lc w hG hR=>z8k la lc (rs.getD r z0I).rep (proA rs r n) w hG hR (by omega)
 rw[N]at C;have O:=B.lt;have A:=q56 (rndC rs) 136 _ (rng B (rndC rs) (o:=0) (fun j v hv=>by rw[Nat.zero_add,List.getElem?_toArray];exact hv)) O Tryz.underlying136 rfl (by rw[z0u h h4];exact z2K);have J:=q56 ((rs.getD r z0I).rep.map iv) 131 _ (rng B _ (o:=1+r*6) (fun j v hv=>by rw[List.getElem?_toArray];exact q3R h r hr j v hv)) O Tryz.underlying131 rfl (by rw[List.length_map,N];exact z18);have cp:=z0a (B.cell (1+r*6+3+n) (iv (proA rs r n)) (by rw[List.getElem?_toArray];exact z9u h r hr n hn));have HE:Hid (proR rs r n=((proA rs r n==3)||((repA rs r n !=3) && mayP (rs.getD r z0I).rep (proA rs r n)))):=(rfl:_=_)
 generalize proR rs r n=E at HE⊢;generalize (rs.getD r z0I).rep=qr at*;generalize proA rs r n=P at*;generalize repA rs r n=R at*;generalize rndC rs=ds at*;have Z:(r:Int)<4:=by omega
 have Y:(n:Int)<3:=by omega
 go_enter func170,ntmps170
 go_wp2_with fail
 generalize w.alloc (.cells ds.toArray 136)=W at*;have hW:Below W.heap.size W W.drew:=(Below.refl _ _).drew;have M:Nonempty (Lat W):=⟨⟨W,Below.refl _ _⟩⟩
 by_cases hP:P=3
 ·have E2:Hid (E=true):=by rw[HE.out,hP];rfl
  have D:(P !=3)=false:=by simp[hP]
  rw[D]at z;clear HE hP;refine z0d (S:=fun w'=>∃u:Lat W,w'=u.val) (by kernel_rfl) ?_;refine sgr [(1,2)] 26 (by kernel_rfl) ⟨⟨_,hW⟩,rfl⟩ ?_;simp only[pkE];repeat go_big_quiet_step (fail)
  refine wpQuiet_nil ?_;refine qta 0 (some 7) (.agg ds.toArray) 25 (by kernel_rfl) (fun u hu=>?_) ⟨⟨_,hW⟩,rfl⟩ ?_
  ·obtain⟨u,rfl⟩:=hu;show some (((Instr.loadAt 136 (.pointer (some ⟨w.heap.size,0,none⟩)))>>=fun x=>pure (Next.value x):Sem Next).run K u.val)=_;rw[Sem.run_bind,A u];rfl
  simp only[m,pjE];refine cla 3 (some 10) 204 #[.agg ds.toArray,H F (r:Int),H F (n:Int)] 24 (by kernel_rfl) ?_;refine(z _).mono ?_;rintro e w9 ⟨rfl,c⟩;replace hW:=hW.trans (c.mono hW.size);clear c;refine⟨_,rfl,⟨⟨_,hW⟩,rfl⟩,?_⟩;simp only[m,pjE];refine sgr [(4,2),(7,2)] 20 (by kernel_rfl) ⟨⟨_,hW⟩,rfl⟩ ?_;simp only[pkE];repeat go_big_quiet_step (fail)
  refine wpQuiet_nil ?_;refine ska 6 (some 13) 19 (by kernel_rfl) ⟨⟨_,hW⟩,rfl⟩ ?_;simp only[m,pjE];refine ska 9 (some 16) 18 (by kernel_rfl) ⟨⟨_,hW⟩,rfl⟩ ?_;simp only[m,pjE];refine sgr [(10,5),(17,7)] 6 (by kernel_rfl) ⟨⟨_,hW⟩,rfl⟩ ?_;simp only[pkE];repeat go_big_quiet_step (fail)
  refine wpQuiet_nil ?_;refine ska 15 (some 22) 5 (by kernel_rfl) ⟨⟨_,hW⟩,rfl⟩ ?_;simp only[m,pjE];refine ska 16 (some 23) 4 (by kernel_rfl) ⟨⟨_,hW⟩,rfl⟩ ?_;simp only[m,pjE];refine ska 24 (some 31) 3 (by kernel_rfl) ⟨⟨_,hW⟩,rfl⟩ ?_;simp only[m,pjE];refine sgr [(25,3)] 0 (by kernel_rfl) ⟨⟨_,hW⟩,rfl⟩ ?_;simp only[pkE];repeat go_big_quiet_step (fail)
  refine wpQuiet_nil ?_;refine z0h (by kernel_rfl) ?_;replace d:=d.trans (hW.mono d.size);clear A J cp hW M z y I C
  go_wp2
  go_ret;exact⟨by rw[E2.out];rfl,d⟩
 ·have D:(P !=3)=true:=by simpa using hP
  have U:(P==3)=false:=by simpa using hP
  rw[D]at z;rw[U]at HE;clear hP D;by_cases hR:R=3
  ·have E2:Hid (E=false):=by rw[HE.out,hR];rfl
   have L:(R !=3)=false:=by simp[hR]
   rw[L]at y;clear HE hR;refine z0d (S:=fun w'=>∃u:Lat W,w'=u.val) (by kernel_rfl) ?_;refine sgr [(1,2)] 26 (by kernel_rfl) ⟨⟨_,hW⟩,rfl⟩ ?_;simp only[pkE];repeat go_big_quiet_step (fail)
   refine wpQuiet_nil ?_;refine qta 0 (some 7) (.agg ds.toArray) 25 (by kernel_rfl) (fun u hu=>?_) ⟨⟨_,hW⟩,rfl⟩ ?_
   ·obtain⟨u,rfl⟩:=hu;show some (((Instr.loadAt 136 (.pointer (some ⟨w.heap.size,0,none⟩)))>>=fun x=>pure (Next.value x):Sem Next).run K u.val)=_;rw[Sem.run_bind,A u];rfl
   simp only[m,pjE];refine cla 3 (some 10) 204 #[.agg ds.toArray,H F (r:Int),H F (n:Int)] 24 (by kernel_rfl) ?_;refine(z _).mono ?_;rintro e w9 ⟨rfl,c⟩;replace hW:=hW.trans (c.mono hW.size);clear c;refine⟨_,rfl,⟨⟨_,hW⟩,rfl⟩,?_⟩;simp only[m,pjE];refine sgr [(4,2),(7,2)] 20 (by kernel_rfl) ⟨⟨_,hW⟩,rfl⟩ ?_;simp only[pkE];repeat go_big_quiet_step (fail)
   refine wpQuiet_nil ?_;refine qta 6 (some 13) (.agg ds.toArray) 19 (by kernel_rfl) (fun u hu=>?_) ⟨⟨_,hW⟩,rfl⟩ ?_
   ·obtain⟨u,rfl⟩:=hu;show some (((Instr.loadAt 136 (.pointer (some ⟨w.heap.size,0,none⟩)))>>=fun x=>pure (Next.value x):Sem Next).run K u.val)=_;rw[Sem.run_bind,A u];rfl
   simp only[m,pjE];refine cla 9 (some 16) 206 #[.agg ds.toArray,H F (r:Int),H F (n:Int)] 18 (by kernel_rfl) ?_;refine(y _).mono ?_;rintro e w9 ⟨rfl,c⟩;replace hW:=hW.trans (c.mono hW.size);clear c;refine⟨_,rfl,⟨⟨_,hW⟩,rfl⟩,?_⟩;simp only[m,pjE];refine sgr [(10,5),(17,7)] 6 (by kernel_rfl) ⟨⟨_,hW⟩,rfl⟩ ?_;simp only[pkE];repeat go_big_quiet_step (fail)
   refine wpQuiet_nil ?_;refine ska 15 (some 22) 5 (by kernel_rfl) ⟨⟨_,hW⟩,rfl⟩ ?_;simp only[m,pjE];refine ska 16 (some 23) 4 (by kernel_rfl) ⟨⟨_,hW⟩,rfl⟩ ?_;simp only[m,pjE];refine ska 24 (some 31) 3 (by kernel_rfl) ⟨⟨_,hW⟩,rfl⟩ ?_;simp only[m,pjE];refine sgr [(25,3)] 0 (by kernel_rfl) ⟨⟨_,hW⟩,rfl⟩ ?_;simp only[pkE];repeat go_big_quiet_step (fail)
   refine wpQuiet_nil ?_;refine z0h (by kernel_rfl) ?_;replace d:=d.trans (hW.mono d.size);clear A J cp hW M z y I C
   go_wp2
   go_ret;exact⟨by rw[E2.out];rfl,d⟩
  ·have L:(R !=3)=true:=by simpa using hR
   rw[L]at y HE;clear hR;have E2:Hid (E=mayP qr P):=by rw[HE.out];exact(rfl:_=_)
   generalize mayP qr P=X at*;clear HE;refine z0d (S:=fun w'=>∃u:Lat W,w'=u.val) (by kernel_rfl) ?_;refine sgr [(1,2)] 26 (by kernel_rfl) ⟨⟨_,hW⟩,rfl⟩ ?_;simp only[pkE];repeat go_big_quiet_step (fail)
   refine wpQuiet_nil ?_;refine qta 0 (some 7) (.agg ds.toArray) 25 (by kernel_rfl) (fun u hu=>?_) ⟨⟨_,hW⟩,rfl⟩ ?_
   ·obtain⟨u,rfl⟩:=hu;show some (((Instr.loadAt 136 (.pointer (some ⟨w.heap.size,0,none⟩)))>>=fun x=>pure (Next.value x):Sem Next).run K u.val)=_;rw[Sem.run_bind,A u];rfl
   simp only[m,pjE];refine cla 3 (some 10) 204 #[.agg ds.toArray,H F (r:Int),H F (n:Int)] 24 (by kernel_rfl) ?_;refine(z _).mono ?_;rintro e w9 ⟨rfl,c⟩;replace hW:=hW.trans (c.mono hW.size);clear c;refine⟨_,rfl,⟨⟨_,hW⟩,rfl⟩,?_⟩;simp only[m,pjE];refine sgr [(4,2),(7,2)] 20 (by kernel_rfl) ⟨⟨_,hW⟩,rfl⟩ ?_;simp only[pkE];repeat go_big_quiet_step (fail)
   refine wpQuiet_nil ?_;refine qta 6 (some 13) (.agg ds.toArray) 19 (by kernel_rfl) (fun u hu=>?_) ⟨⟨_,hW⟩,rfl⟩ ?_
   ·obtain⟨u,rfl⟩:=hu;show some (((Instr.loadAt 136 (.pointer (some ⟨w.heap.size,0,none⟩)))>>=fun x=>pure (Next.value x):Sem Next).run K u.val)=_;rw[Sem.run_bind,A u];rfl
   simp only[m,pjE];refine cla 9 (some 16) 206 #[.agg ds.toArray,H F (r:Int),H F (n:Int)] 18 (by kernel_rfl) ?_;refine(y _).mono ?_;rintro e w9 ⟨rfl,c⟩;replace hW:=hW.trans (c.mono hW.size);clear c;refine⟨_,rfl,⟨⟨_,hW⟩,rfl⟩,?_⟩;simp only[m,pjE];refine sgr [(10,5),(17,7)] 6 (by kernel_rfl) ⟨⟨_,hW⟩,rfl⟩ ?_;simp only[pkE];repeat go_big_quiet_step (fail)
   refine wpQuiet_nil ?_;refine qta 15 (some 22) (.agg (qr.map iv).toArray) 5 (by kernel_rfl) (fun u hu=>?_) ⟨⟨_,hW⟩,rfl⟩ ?_
   ·obtain⟨u,rfl⟩:=hu;show some (((Instr.loadAt 131 (.pointer (some ⟨w.heap.size,1+r*6,none⟩)))>>=fun x=>pure (Next.value x):Sem Next).run K u.val)=_;rw[Sem.run_bind,J u];rfl
   simp only[m,pjE];refine cla 16 (some 23) 149 #[.agg (qr.map iv).toArray] 4 (by kernel_rfl) ?_;refine(I _ N).mono ?_;rintro e w9 ⟨la,lc,rfl,lO,lG,lR,c⟩;replace hW:=hW.trans (c.mono hW.size);have T:=C la lc _ (hG.below (d.trans (hW.mono d.size))) lR;clear lO lG lR;clear c;refine⟨_,rfl,⟨⟨_,hW⟩,rfl⟩,?_⟩;simp only[m,pjE];refine cla 24 (some 31) 207 #[l la 3 lc,H F P] 3 (by kernel_rfl) ?_;refine(T).mono ?_;rintro e w9 ⟨rfl,c⟩;replace hW:=hW.trans (c.mono hW.size);clear c;refine⟨_,rfl,⟨⟨_,hW⟩,rfl⟩,?_⟩;simp only[m,pjE];refine sgr [(25,3)] 0 (by kernel_rfl) ⟨⟨_,hW⟩,rfl⟩ ?_;simp only[pkE];repeat go_big_quiet_step (fail)
   refine wpQuiet_nil ?_;refine z0h (by kernel_rfl) ?_;replace d:=d.trans (hW.mono d.size);clear A J cp hW M z y I C T
   go_wp2
   go_ret;exact⟨by rw[E2.out];rfl,d⟩
end Go.Proofs.YtjjoahhnkpjolaaGreatDoor

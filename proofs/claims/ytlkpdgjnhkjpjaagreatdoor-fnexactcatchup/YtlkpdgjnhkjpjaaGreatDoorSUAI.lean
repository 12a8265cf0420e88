import Derived.Test.YtlkpdgjnhkjpjaaGreatDoorSUAH
set_option linter.unusedVariables false
set_option linter.unusedSimpArgs false
set_option maxRecDepth 100000
set_option maxHeartbeats 4000000
namespace Go.Proofs.YtlkpdgjnhkjpjaaGreatDoor
open Go.RowKit Go.BigFrame
open List renaming getD->f,length_map->Va
open Act renaming put->Vb
open IntKind renaming i64->H
open Value renaming int->l,slice->m
open Go.Proofs.Tryz renaming prog->K
open Go.Proofs.Tryz
abbrev iv(n:Int):Value:=l H n
def Wel(rs:List RoundE):Prop:=∀r∈rs,r.rep.length=3∧r.pro.length=3
def z1F(r:RoundE):List Value:=(r.rep++r.pro).map iv
def z4b(rs:List RoundE):List Value:=rs.flatMap z1F
def rndC(rs:List RoundE):List Value:=iv rs.length::(z4b rs++List.replicate (24-6*rs.length) (iv 0))
def brdC(has:Bool)(vb:Value)(rs:List RoundE)(dec:List Int):List Value:=rndC rs++([.bool has,vb]++dec.map iv)
theorem z09{r:RoundE}(h:r.rep.length=3∧r.pro.length=3):(z1F r).length=6:=by simp[z1F,h.1,h.2]
theorem z2E{rs:List RoundE}(h:Wel rs):(z4b rs).length=rs.length*6:=by
 induction rs with
 |nil=>rfl
 |cons r t ih=>
  have h1:=ih (fun x hx=>h x (List.mem_cons_of_mem _ hx));have h2:=z09 (h r (by simp));simp only[z4b,List.flatMap_cons,List.length_append,List.length_cons]at h1⊢;omega
theorem z0x{rs:List RoundE}(h:Wel rs)(h4:rs.length≤4):(rndC rs).length=25:=by
 have:=z2E h;simp only[rndC,List.length_cons,List.length_append,List.length_replicate];omega
theorem z3t{has:Bool}{vb:Value}{rs:List RoundE}{dec:List Int}(h:Wel rs)(h4:rs.length≤4)(hd:dec.length=3):(brdC has vb rs dec).length=30:=by
 have:=z0x h h4;simp only[brdC,List.length_append,List.length_cons,List.length_nil,Va];omega
theorem q18{rs:List RoundE}(h:Wel rs)(r:Nat)(hr:r<rs.length)(j:Nat)(hj:j<6):(z4b rs)[r*6+j]?=(z1F (rs.getD r z0H))[j]?:=by
 induction rs generalizing r with
 |nil=>simp at hr
 |cons q t ih=>
  have hq:=z09 (h q (by simp));simp only[z4b,List.flatMap_cons]
  cases r with
  |zero=>
   rw[List.getElem?_append_left (by omega)];simp
  |succ r=>
   rw[List.getElem?_append_right (by omega),hq,show(r+1)*6+j-6=r*6+j by omega];have:=ih (fun x hx=>h x (List.mem_cons_of_mem _ hx)) r (by simpa using hr);simpa[z4b]using this
theorem z3K{rs:List RoundE}(h:Wel rs)(r:Nat)(hr:r<rs.length):(rs.getD r z0H).rep.length=3∧(rs.getD r z0H).pro.length=3:=by
 have e:rs.getD r z0H=rs[r]:=by simp[f,hr]
 rw[e];exact h _ (List.getElem_mem hr)
theorem q3R{q:RoundE}(h:q.rep.length=3∧q.pro.length=3)(n:Nat)(hn:n<3):(z1F q)[n]?=some (iv (q.rep.getD n 0)):=by
 unfold z1F;rw[List.getElem?_map,List.getElem?_append_left (by omega),List.getElem?_eq_getElem (by omega)];simp[f,show n<q.rep.length by omega]
theorem q0f{q:RoundE}(h:q.rep.length=3∧q.pro.length=3)(n:Nat)(hn:n<3):(z1F q)[3+n]?=some (iv (q.pro.getD n 0)):=by
 unfold z1F;rw[List.getElem?_map,List.getElem?_append_right (by omega),h.1,show 3+n-3=n by omega,List.getElem?_eq_getElem (by omega)];simp[f,show n<q.pro.length by omega]
theorem q19(rs:List RoundE):(rndC rs)[0]?=some (iv rs.length):=rfl
theorem q2a{rs:List RoundE}(h:Wel rs)(r:Nat)(hr:r<rs.length)(j:Nat)(hj:j<6):(rndC rs)[1+r*6+j]?=(z1F (rs.getD r z0H))[j]?:=by
 have hl:=z2E h;unfold rndC;rw[show 1+r*6+j=(r*6+j)+1 by omega,List.getElem?_cons_succ,List.getElem?_append_left (by omega),q18 h r hr j hj]
theorem z9t{rs:List RoundE}(h:Wel rs)(r:Nat)(hr:r<rs.length)(n:Nat)(hn:n<3):(rndC rs)[1+r*6+n]?=some (iv (repA rs r n)):=by
 rw[q2a h r hr n (by omega),q3R (z3K h r hr) n hn];rfl
theorem z9u{rs:List RoundE}(h:Wel rs)(r:Nat)(hr:r<rs.length)(n:Nat)(hn:n<3):(rndC rs)[1+r*6+3+n]?=some (iv (proA rs r n)):=by
 rw[show 1+r*6+3+n=1+r*6+(3+n) by omega,q2a h r hr (3+n) (by omega),q0f (z3K h r hr) n hn];rfl
theorem z7c{has:Bool}{vb:Value}{rs:List RoundE}{dec:List Int}(h:Wel rs)(h4:rs.length≤4)(j:Nat)(hj:j<25):(brdC has vb rs dec)[j]?=(rndC rs)[j]?:=by
 have:=z0x h h4;unfold brdC;rw[List.getElem?_append_left (by omega)]
theorem q5f{has:Bool}{vb:Value}{rs:List RoundE}{dec:List Int}(h:Wel rs)(h4:rs.length≤4):(brdC has vb rs dec)[25]?=some (.bool has):=by
 have:=z0x h h4;unfold brdC;rw[List.getElem?_append_right (by omega),this];rfl
theorem q2b{has:Bool}{vb:Value}{rs:List RoundE}{dec:List Int}(h:Wel rs)(h4:rs.length≤4)(hd:dec.length=3)(n:Nat)(hn:n<3):(brdC has vb rs dec)[27+n]?=some (iv (dec.getD n 0)):=by
 have:=z0x h h4;unfold brdC;rw[List.getElem?_append_right (by omega),this,show 27+n-25=n+2 by omega];simp[f,show n<dec.length by omega]
theorem z3L:(K.info? 259).map (·.size)=some 25:=by kernel_rfl
theorem z3M:(K.info? 261).map (·.size)=some 30:=by kernel_rfl
theorem z6y:(K.info? 254).map (·.size)=some 3:=by kernel_rfl
theorem q2c:(K.info? 256).map (·.size)=some 6:=by kernel_rfl
theorem rng{w:World}{b o:Nat}{t:TypeId}{cs:Array Value}(hB:Blk w b t cs)(L:List Value)(h:∀j v,L[j]?=some v→cs[o+j]?=some v):w.rangeAt b o L:=fun j v hv=>hB.cell (o+j) v (h j v hv)
theorem q6g{w:World}{b o:Nat}(L:List Value)(ty:TypeId)(d:TypeDesc)(hr:w.rangeAt b o L)(hlt:b<w.heap.size)(hu:K.underlying ty=some d)(hd:d.isRow=true)(hi:(K.info? ty).map (·.size)=some L.length):
  ∀u:Lat w,(Instr.loadAt ty (.pointer (some ⟨b,o,none⟩))).run K u.val=.ok (.agg L.toArray) u.val:=fun u=>by
 refine run_loadAt_mid u.val b o ty L d (fun j v hv=>?_) hu hd hi;rw[u.isBelow.cell (p:=⟨b,o+j,none⟩) hlt];exact hr j v hv
section
variable {ops:Array Oper} {rest:List Oper} {op:Oper} {a:Act} {w:World} {Q:Exit→Act→World→Prop}
theorem q02(hw:Region.wanted op (yielded ops a.tmps)=true)(ty:TypeId)(x:Operand)(ho:op.op=.load ty x)
  (b o:Nat) (hx:a.eval x=.pointer (some ⟨b,o,none⟩)) (cs:List Value) (d:TypeDesc) (hc:w.rangeAt b o cs)
  (hu:K.underlying ty=some d) (hd:d.isRow=true) (hi:(K.info? ty).map (·.size)=some cs.length)
  (h:wpList K ops Q rest (a.put op.dst (.agg cs.toArray)) w):wpList K ops Q (op::rest) a w:=by
 simp only[wpList];rw[if_pos hw];exact Or.inl (wp_load_mid ty x ho b o hx cs d hc hu hd hi h)
theorem st_g(hw:Region.wanted op (yielded ops a.tmps)=true)(ty:TypeId)(x y:Operand)(ho:op.op=.store ty x y)
  (b o:Nat) (cells:Array Value) (hx:a.eval x=.pointer (some ⟨b,o,none⟩)) (hy:a.eval y=.agg cells)
  (ht:w.there b o cells.size) (hi:(K.info? ty).map (·.size)=some cells.size) (h1:cells.all (·.oneCell')=true)
  (h:wpList K ops Q rest (a.put op.dst undef) (w.setCells b o cells.toList)):wpList K ops Q (op::rest) a w:=by
 simp only[wpList];rw[if_pos hw];exact Or.inl (wp_store_mid ty x y ho b o cells hx hy ht hi h1 h)
end
theorem z3u(rs:List RoundE)(r n:Nat)(w:World)(h:Wel rs)(h4:rs.length≤4)(hr:r<rs.length)(hn:n<3):
  Calls K 288 #[.agg (rndC rs).toArray,l H (r:Int),l H (n:Int)] w fun e w'=>e=.returned (.bool (proA rs r n !=3))∧Below w.heap.size w w':=by
 have hp:=z9u h r hr n hn;have hl:=z0x h h4;generalize proA rs r n=P at*;generalize rndC rs=cs at*;have hr4:(r:Int)<4:=by omega
 have hn3:(n:Int)<3:=by omega
 go_enter func288,ntmps288
 go_wp2
 go_ret;exact⟨rfl,by go_grown⟩
theorem z7d(rs:List RoundE)(r n:Nat)(w:World)(h:Wel rs)(h4:rs.length≤4)(hn:n<3):
  Calls K 291 #[.agg (rndC rs).toArray,l H (r:Int),l H (n:Int)] w fun e w'=>e=.returned (.bool (decide (r<rs.length) && (repA rs r n !=3)))∧Below w.heap.size w w':=by
 have hc:=q19 rs;have hn3:(n:Int)<3:=by omega
 by_cases hr:r<rs.length
 ·have hp:=z9t h r hr n hn;have hr4:(r:Int)<4:=by omega
  have hd:decide (r<rs.length)=true:=decide_eq_true hr;rw[hd,Bool.true_and];generalize repA rs r n=P at*;generalize rs.length=c at*;generalize rndC rs=cs at*;clear hd;go_enter func291,ntmps291
  go_wp2
  go_ret;exact⟨rfl,by go_grown⟩
 ·have hd:decide (r<rs.length)=false:=decide_eq_false hr;rw[hd,Bool.false_and];generalize rs.length=c at*;generalize rndC rs=cs at*;clear hd;go_enter func291,ntmps291
  go_wp2
  go_ret;exact⟨rfl,by go_grown⟩
theorem q4w:(K.info? 2).map (fun i=>(i.zero,i.size,i.bytes))=some (some (l H 0),1,8):=by kernel_rfl
theorem q03(b y cap:Nat)(zs:List Int)(w:World)(h:Row .i64 w (some ⟨b,y,none⟩) zs)(h0:0<zs.length)(hl:zs.length≤1048576):
  Calls K 300 #[m (some ⟨b,y,none⟩) zs.length cap] w fun e w'=>∃a c,e=.returned (m a zs.length c)∧
   w'.ownsRow w.heap.size 2 1 (m a zs.length c) zs.length (zs.map iv)∧Below w.heap.size w w':=by
 obtain⟨i0,hi,D,E,I⟩:=info_parts q4w;have hs:=z3I (Lies.below (z5k h) (w':=w.alloc (.cells #[] 2)) (by go_grown));have C:(zs.map iv).length=zs.length*1:=by simp
 have ho:=World.ownsRow_lit (e:=2) (size:=1) w #[] 0 (Nat.le_refl _) (by decide) rfl;have HS:Hid (∀j u,(zs.map iv)[j]?=some u→_):=hs;clear hs;have J:∀w,(binOp .eql 115 (m (some ⟨b,y,none⟩) zs.length cap) (m none 0 0)).run K w=.ok (.bool false) w:=fun w=>by first|rfl|kernel_rfl|(simp only[binOp];simp[Op.equal,Op.maxDepth,Op.equalIn,run_underlying Tryz.underlying115])
 go_enter func300,ntmps300
 go_wp2_with (at_builtin;refine wpList_append_own _ rfl _ _ 115 rfl w.heap.size 2 i0 (l H 0) 1 8 Tryz.underlying115 hi D E I rfl (by decide) _ 0 [] rfl ho ⟨b,y,none⟩ zs.length cap (zs.map iv) rfl C HS.out ?c2 ?c3 ?c4 ?c5 ?_)
 all_goals try(case c2=>first|(intro u hu;obtain⟨z,_,rfl⟩:=List.mem_map.1 hu;rfl)|(intro u hu;rfl))
 all_goals try(case c3=>unfold maxLen;omega)
 all_goals try(case c4=>omega)
 all_goals try(case c5=>simp)
 intro v' w2 x d _;obtain⟨a2,c2,rfl⟩:=z0g x;have A:Below w.heap.size w w2:=((Below.refl _ _).alloc (Nat.le_refl _) _).grown d (by simp) (fun k hk=>by simp[Value.ownBlock]at hk;omega);try simp only[Nat.zero_add]at x
 clear d HS ho
 go_wp2
 go_ret;exact⟨a2,c2,rfl,by simpa using x,A⟩
theorem q3S{w':World}{base n c:Nat}{a:Option Addr}{zs:List Int}(hn:n=zs.length)(h:w'.ownsRow base 2 1 (m a n c) n (zs.map iv)):intK.Own w' (m a n c) zs∧(∀k∈intK.fp (m a n c) zs,base≤k):=by
 subst hn;obtain⟨o,hk⟩:=z0u h;refine⟨⟨by rw[z4V];exact o,fun _ _=>trivial⟩,?_⟩;rw[z37];exact hk
theorem z40(zs:List Int)(w:World)(h3:zs.length=3):
  Calls K 290 #[.agg (zs.map iv).toArray] w fun e w'=>∃a c,e=.returned (m a 3 c)∧intK.Own w' (m a 3 c) zs∧(∀k∈intK.fp (m a 3 c) zs,w.heap.size≤k)∧Row .i64 w' a zs∧Below w.heap.size w w':=by
 have hB:Below w.heap.size w (w.alloc (.cells (zs.map iv).toArray 254)):=by go_grown
 have hR:Row .i64 (w.alloc (.cells (zs.map iv).toArray 254)) (some ⟨w.heap.size,0,none⟩) zs:=by
  intro i hi;refine⟨_,_,rfl,by simp,?_⟩;have:=(Blk.new w 254 (zs.map iv).toArray).cell i (iv (zs.getD i 0)) (by simp[f,hi]);rw[Nat.zero_add];exact this
 have hcl:=q03 w.heap.size 0 3 zs _ hR (by omega) (by omega);rw[h3]at hcl;go_enter func290,ntmps290
 go_wp2_with fail
 refine hcl.mono ?_;rintro e w2 ⟨a,c,rfl,ho,hb⟩;obtain⟨O,G⟩:=q3S h3.symm ho;have hRR:=Row.own ho;have G2:Hid (∀k∈intK.fp (m a 3 c) zs,w.heap.size≤k):=fun k hk=>Nat.le_trans (by simp) (G k hk)
 replace hB:=hB.trans (hb.mono hB.size);clear hcl ho hb G
 go_wp2
 go_ret;exact⟨a,c,rfl,O,G2.out,hRR,hB⟩
section
variable {has:Bool} {vb:Value} {rs:List RoundE} {dec:List Int} {w:World} {b:Nat} {t:TypeId}
theorem z4c (h:Wel rs) (h4:rs.length≤4) (hB:Blk w b t (brdC has vb rs dec).toArray):w.rangeAt b 0 (rndC rs):=rng hB _ (fun j v hv=>by
 have hj:=(List.getElem?_eq_some_iff.1 hv).1;rw[z0x h h4]at hj;rw[Nat.zero_add,List.getElem?_toArray,z7c h h4 j hj];exact hv)
theorem row_get{zs:List Int}(hl:zs.length=3){j:Nat}{v:Value}(hv:(zs.map iv)[j]?=some v):j<3∧v=iv (zs.getD j 0):=by
 have hj:j<zs.length:=by have:=(List.getElem?_eq_some_iff.1 hv).1;simpa using this
 refine⟨by omega,?_⟩;rw[List.getElem?_map,List.getElem?_eq_getElem hj]at hv;simp only[Option.map_some,Option.some.injEq]at hv;rw[←hv];simp[f,hj]
theorem q3T(h:Wel rs)(r:Nat)(hr:r<rs.length):∀j v,((rs.getD r z0H).pro.map iv)[j]?=some v→(rndC rs)[1+r*6+3+j]?=some v:=by
 intro j v hv;obtain⟨hj,rfl⟩:=row_get (z3K h r hr).2 hv;exact z9u h r hr j hj
theorem q3U(h:Wel rs)(r:Nat)(hr:r<rs.length):∀j v,((rs.getD r z0H).rep.map iv)[j]?=some v→(rndC rs)[1+r*6+j]?=some v:=by
 intro j v hv;obtain⟨hj,rfl⟩:=row_get (z3K h r hr).1 hv;exact z9t h r hr j hj
theorem q0g (h:Wel rs) (h4:rs.length≤4) (r:Nat) (hr:r < rs.length) (hB:Blk w b t (brdC has vb rs dec).toArray):w.rangeAt b (1 + r * 6 + 3) ((rs.getD r z0H).pro.map iv):=rng hB _ (fun j v hv=>by
 have h1:=q3T h r hr j v hv;have hj:=(List.getElem?_eq_some_iff.1 h1).1;rw[z0x h h4]at hj;rw[List.getElem?_toArray,z7c h h4 _ hj];exact h1)
end
theorem z4d(has:Bool)(vb:Value)(rs:List RoundE)(dec:List Int)(r n:Nat)(w:World)(hG:Rul w)(h:Wel rs)(h4:rs.length≤4)(hd:dec.length=3)(hr:r<rs.length)(hn:n<3):
  Calls K 275 #[.agg (brdC has vb rs dec).toArray,l H (r:Int),l H (n:Int)] w fun e w'=>e=.returned (.bool (repI has rs r n))∧Below w.heap.size w w':=by
 have hB:=Blk.new w 261 (brdC has vb rs dec).toArray;have D:Below w.heap.size w (w.alloc (.cells (brdC has vb rs dec).toArray 261)):=by go_grown
 have c1:(brdC has vb rs dec)[1+r*6+n]?=some (iv (repA rs r n)):=by
  have h1:=z9t h r hr n hn;rw[z7c h h4 _ (by omega)];exact h1
 have c2:=q5f (has:=has) (vb:=vb) (dec:=dec) h h4;generalize hE:repI has rs r n=E;have HE:Hid (E=if repA rs r n=1∧has=false then false else if repA rs r n=3∨r=0 then true else q3x rs r n):=hE.symm;clear hE;have am:(r:Int)<4:=by omega
 have al:(n:Int)<3:=by omega
 by_cases h1:repA rs r n=1
 ·cases has with
  |false=>
   have E2:Hid (E=false):=by rw[HE.out,if_pos ⟨h1,rfl⟩];rfl
   rw[h1]at c1;clear HE hB h1;generalize brdC false vb rs dec=cs at*;go_enter func275,ntmps275
   go_wp2
   go_ret;exact⟨by rw[E2.out];rfl,D⟩
  |true=>
   have c:Hid (E=if repA rs r n=3∨r=0 then true else q3x rs r n):=by
    have:=HE.out;rw[if_neg (by simp)]at this;exact this
   rw[h1]at c1;obtain⟨R,C⟩:∃R:Int,R=1:=⟨1,rfl⟩
   have d:Hid (R=repA rs r n):=C.trans h1.symm;have ah:(R==3)=false:=by rw[C];rfl
   have ak:(R==1)=true:=by rw[C];rfl
   rw[←C]at c1;have T:¬R=3:=by omega
   clear HE h1 C;by_cases ad:r=0
   ·have E2:Hid (E=true):=by rw[c.out,if_pos (Or.inr ad)];rfl
    subst ad;simp only[Nat.zero_mul,Nat.add_zero,Nat.zero_add]at c1;clear c d;generalize brdC true vb rs dec=cs at*;go_enter func275,ntmps275
    go_wp2
    go_ret;exact⟨by rw[E2.out];rfl,D⟩
   ·obtain⟨s,rfl⟩:∃s,r=s+1:=⟨r-1,by omega⟩
    have HS:Hid (E=((proA rs s n !=3) && mayR (rs.getD s z0H).pro R)):=by rw[c.out,if_neg (by rw[←d.out];omega),d.out];exact(rfl:_=_)
    have hs:s<rs.length:=by omega
    have aa:=fun w=>z3u rs s n w h h4 hs hn
    have ae:=z4c h h4 hB;have J:(K.info? 259).map (·.size)=some (rndC rs).length:=by rw[z0x h h4];exact z3L
    have af:=z3K h s hs;have N:=z40 (rs.getD s z0H).pro;have Z:=hB.lt;have aj:¬((s:Int)+1=0):=by omega
    have x:=q0g h h4 s hs hB;have y:(K.info? 254).map (·.size)=some ((rs.getD s z0H).pro.map iv).length:=by rw[Va,af.2];exact z6y
    have ab:=af.2;clear c d;generalize (rs.getD s z0H).pro=qp at*;generalize proA rs s n=A at*;generalize rndC rs=ds at*;go_enter func275,ntmps275;generalize brdC true vb rs dec=cs at*
    go_wp2_with (refine q02 (by kernel_rfl) 259 _ rfl _ _ rfl ds _ ae Tryz.underlying259 rfl J ?_)
    clear ae J;generalize w.alloc (.cells cs.toArray 261)=W at*;refine(aa W).mono ?_;rintro e w1 ⟨rfl,U⟩;have L:=D.trans (U.mono D.size);clear aa;by_cases hA:A=3
    ·have E2:Hid (E=false):=by rw[HS.out,hA];rfl
     have z:(A !=3)=false:=by simp[hA]
     rw[z];clear HS N x y hA
     go_wp2
     go_ret;exact⟨by rw[E2.out];rfl,L⟩
    ·have z:(A !=3)=true:=by simpa using hA
     rw[z]at HS;rw[z];have ai:=Z;have I:w1.rangeAt w.heap.size (1+s*6+3) (qp.map iv):=fun j v hv=>by rw[U.cell (p:=⟨w.heap.size,1+s*6+3+j,none⟩) Z];exact x j v hv
     clear x hA
     go_wp2_with (refine q02 (by kernel_rfl) 254 _ rfl _ _ rfl (qp.map iv) _ I Tryz.underlying254 rfl y ?_)
     clear I y;refine(N w1 ab).mono ?_;rintro e w2 ⟨la,lc,rfl,lO,lG,lR,V⟩;have M:=L.trans (V.mono L.size);have O:=z4x la lc qp R w2 (hG.below M) lR (by omega);rw[ab]at O;generalize mayR qp R=Y at*;clear N lO lG V
     go_wp2_with fail
     refine O.mono ?_;rintro e w3 ⟨rfl,X⟩;have ag:=M.trans (X.mono M.size);clear O X;have E2:Hid (E=Y):=by rw[HS.out];exact(rfl:_=_)
     clear HS
     go_wp2
     go_ret;exact⟨by rw[E2.out];rfl,ag⟩
 ·have c:Hid (E=if repA rs r n=3∨r=0 then true else q3x rs r n):=by
   have:=HE.out;rw[if_neg (fun e=>h1 e.1)]at this;exact this
  generalize C:repA rs r n=R at c1 h1;have d:Hid (R=repA rs r n):=C.symm;have ak:(R==1)=false:=by simpa using h1
  clear HE h1 C;by_cases T:R=3
  ·have E2:Hid (E=true):=by rw[c.out,if_pos (Or.inl (by rw[←d.out];exact T))];rfl
   have ah:(R==3)=true:=by simp[T]
   clear c d T;generalize brdC has vb rs dec=cs at*;go_enter func275,ntmps275
   go_wp2
   go_ret;exact⟨by rw[E2.out];rfl,D⟩
  ·have ah:(R==3)=false:=by simpa using T
   by_cases ad:r=0
   ·have E2:Hid (E=true):=by rw[c.out,if_pos (Or.inr ad)];rfl
    subst ad;simp only[Nat.zero_mul,Nat.add_zero,Nat.zero_add]at c1;clear c d;generalize brdC has vb rs dec=cs at*;go_enter func275,ntmps275
    go_wp2
    go_ret;exact⟨by rw[E2.out];rfl,D⟩
   ·obtain⟨s,rfl⟩:∃s,r=s+1:=⟨r-1,by omega⟩
    have HS:Hid (E=((proA rs s n !=3) && mayR (rs.getD s z0H).pro R)):=by rw[c.out,if_neg (by rw[←d.out];omega),d.out];exact(rfl:_=_)
    have hs:s<rs.length:=by omega
    have aa:=fun w=>z3u rs s n w h h4 hs hn
    have ae:=z4c h h4 hB;have J:(K.info? 259).map (·.size)=some (rndC rs).length:=by rw[z0x h h4];exact z3L
    have af:=z3K h s hs;have N:=z40 (rs.getD s z0H).pro;have Z:=hB.lt;have aj:¬((s:Int)+1=0):=by omega
    have x:=q0g h h4 s hs hB;have y:(K.info? 254).map (·.size)=some ((rs.getD s z0H).pro.map iv).length:=by rw[Va,af.2];exact z6y
    have ab:=af.2;clear c d;generalize (rs.getD s z0H).pro=qp at*;generalize proA rs s n=A at*;generalize rndC rs=ds at*;go_enter func275,ntmps275;generalize brdC has vb rs dec=cs at*
    go_wp2_with (refine q02 (by kernel_rfl) 259 _ rfl _ _ rfl ds _ ae Tryz.underlying259 rfl J ?_)
    clear ae J;generalize w.alloc (.cells cs.toArray 261)=W at*;refine(aa W).mono ?_;rintro e w1 ⟨rfl,U⟩;have L:=D.trans (U.mono D.size);clear aa;by_cases hA:A=3
    ·have E2:Hid (E=false):=by rw[HS.out,hA];rfl
     have z:(A !=3)=false:=by simp[hA]
     rw[z];clear HS N x y hA
     go_wp2
     go_ret;exact⟨by rw[E2.out];rfl,L⟩
    ·have z:(A !=3)=true:=by simpa using hA
     rw[z]at HS;rw[z];have ai:=Z;have I:w1.rangeAt w.heap.size (1+s*6+3) (qp.map iv):=fun j v hv=>by rw[U.cell (p:=⟨w.heap.size,1+s*6+3+j,none⟩) Z];exact x j v hv
     clear x hA
     go_wp2_with (refine q02 (by kernel_rfl) 254 _ rfl _ _ rfl (qp.map iv) _ I Tryz.underlying254 rfl y ?_)
     clear I y;refine(N w1 ab).mono ?_;rintro e w2 ⟨la,lc,rfl,lO,lG,lR,V⟩;have M:=L.trans (V.mono L.size);have O:=z4x la lc qp R w2 (hG.below M) lR (by omega);rw[ab]at O;generalize mayR qp R=Y at*;clear N lO lG V
     go_wp2_with fail
     refine O.mono ?_;rintro e w3 ⟨rfl,X⟩;have ag:=M.trans (X.mono M.size);clear O X;have E2:Hid (E=Y):=by rw[HS.out];exact(rfl:_=_)
     clear HS
     go_wp2
     go_ret;exact⟨by rw[E2.out];rfl,ag⟩
theorem z5s(rs:List RoundE)(r n:Nat)(w:World)(hG:Rul w)(h:Wel rs)(h4:rs.length≤4)(hr:r<rs.length)(hn:n<3):
  Calls K 276 #[.agg (rndC rs).toArray,l H (r:Int),l H (n:Int)] w fun e w'=>e=.returned (.bool (proR rs r n))∧Below w.heap.size w w':=by
 have B:=Blk.new w 259 (rndC rs).toArray;have d:Below w.heap.size w (w.alloc (.cells (rndC rs).toArray 259)):=by go_grown
 have V:=z3K h r hr;have N:=V.1;have z:=fun w=>z3u rs r n w h h4 hr hn
 have y:=fun w=>z7d rs r n w h h4 hn
 rw[decide_eq_true hr]at y;simp only[Bool.true_and]at y;have I:=z40 (rs.getD r z0H).rep;have C:=fun la lc w hG hR=>z8l la lc (rs.getD r z0H).rep (proA rs r n) w hG hR (by omega)
 rw[N]at C;have O:=B.lt;have A:=q6g (rndC rs) 259 _ (rng B (rndC rs) (o:=0) (fun j v hv=>by rw[Nat.zero_add,List.getElem?_toArray];exact hv)) O Tryz.underlying259 rfl (by rw[z0x h h4];exact z3L);have J:=q6g ((rs.getD r z0H).rep.map iv) 254 _ (rng B _ (o:=1+r*6) (fun j v hv=>by rw[List.getElem?_toArray];exact q3U h r hr j v hv)) O Tryz.underlying254 rfl (by rw[Va,N];exact z6y);have cp:=z0d (B.cell (1+r*6+3+n) (iv (proA rs r n)) (by rw[List.getElem?_toArray];exact z9u h r hr n hn));have HE:Hid (proR rs r n=((proA rs r n==3)||((repA rs r n !=3) && mayP (rs.getD r z0H).rep (proA rs r n)))):=(rfl:_=_)
 generalize proR rs r n=E at HE⊢;generalize (rs.getD r z0H).rep=qr at*;generalize proA rs r n=P at*;generalize repA rs r n=R at*;generalize rndC rs=ds at*;have Z:(r:Int)<4:=by omega
 have Y:(n:Int)<3:=by omega
 go_enter func276,ntmps276
 go_wp2_with fail
 generalize w.alloc (.cells ds.toArray 259)=W at*;have hW:Below W.heap.size W W.drew:=(Below.refl _ _).drew;have M:Nonempty (Lat W):=⟨⟨W,Below.refl _ _⟩⟩
 by_cases hP:P=3
 ·have E2:Hid (E=true):=by rw[HE.out,hP];rfl
  have D:(P !=3)=false:=by simp[hP]
  rw[D]at z;clear HE hP;refine z0a (S:=fun w'=>∃u:Lat W,w'=u.val) (by kernel_rfl) ?_;refine sgr [(1,2)] 26 (by kernel_rfl) ⟨⟨_,hW⟩,rfl⟩ ?_;simp only[pkE];repeat go_big_quiet_step (fail)
  refine wpQuiet_nil ?_;refine qta 0 (some 7) (.agg ds.toArray) 25 (by kernel_rfl) (fun u hu=>?_) ⟨⟨_,hW⟩,rfl⟩ ?_
  ·obtain⟨u,rfl⟩:=hu;show some (((Instr.loadAt 259 (.pointer (some ⟨w.heap.size,0,none⟩)))>>=fun x=>pure (Next.value x):Sem Next).run K u.val)=_;rw[Sem.run_bind,A u];rfl
  simp only[Vb,pjE];refine cla 3 (some 10) 288 #[.agg ds.toArray,l H (r:Int),l H (n:Int)] 24 (by kernel_rfl) ?_;refine(z _).mono ?_;rintro e w9 ⟨rfl,c⟩;replace hW:=hW.trans (c.mono hW.size);clear c;refine⟨_,rfl,⟨⟨_,hW⟩,rfl⟩,?_⟩;simp only[Vb,pjE];refine sgr [(4,2),(7,2)] 20 (by kernel_rfl) ⟨⟨_,hW⟩,rfl⟩ ?_;simp only[pkE];repeat go_big_quiet_step (fail)
  refine wpQuiet_nil ?_;refine ska 6 (some 13) 19 (by kernel_rfl) ⟨⟨_,hW⟩,rfl⟩ ?_;simp only[Vb,pjE];refine ska 9 (some 16) 18 (by kernel_rfl) ⟨⟨_,hW⟩,rfl⟩ ?_;simp only[Vb,pjE];refine sgr [(10,5),(17,7)] 6 (by kernel_rfl) ⟨⟨_,hW⟩,rfl⟩ ?_;simp only[pkE];repeat go_big_quiet_step (fail)
  refine wpQuiet_nil ?_;refine ska 15 (some 22) 5 (by kernel_rfl) ⟨⟨_,hW⟩,rfl⟩ ?_;simp only[Vb,pjE];refine ska 16 (some 23) 4 (by kernel_rfl) ⟨⟨_,hW⟩,rfl⟩ ?_;simp only[Vb,pjE];refine ska 24 (some 31) 3 (by kernel_rfl) ⟨⟨_,hW⟩,rfl⟩ ?_;simp only[Vb,pjE];refine sgr [(25,3)] 0 (by kernel_rfl) ⟨⟨_,hW⟩,rfl⟩ ?_;simp only[pkE];repeat go_big_quiet_step (fail)
  refine wpQuiet_nil ?_;refine z0e (by kernel_rfl) ?_;replace d:=d.trans (hW.mono d.size);clear A J cp hW M z y I C
  go_wp2
  go_ret;exact⟨by rw[E2.out];rfl,d⟩
 ·have D:(P !=3)=true:=by simpa using hP
  have U:(P==3)=false:=by simpa using hP
  rw[D]at z;rw[U]at HE;clear hP D;by_cases hR:R=3
  ·have E2:Hid (E=false):=by rw[HE.out,hR];rfl
   have L:(R !=3)=false:=by simp[hR]
   rw[L]at y;clear HE hR;refine z0a (S:=fun w'=>∃u:Lat W,w'=u.val) (by kernel_rfl) ?_;refine sgr [(1,2)] 26 (by kernel_rfl) ⟨⟨_,hW⟩,rfl⟩ ?_;simp only[pkE];repeat go_big_quiet_step (fail)
   refine wpQuiet_nil ?_;refine qta 0 (some 7) (.agg ds.toArray) 25 (by kernel_rfl) (fun u hu=>?_) ⟨⟨_,hW⟩,rfl⟩ ?_
   ·obtain⟨u,rfl⟩:=hu;show some (((Instr.loadAt 259 (.pointer (some ⟨w.heap.size,0,none⟩)))>>=fun x=>pure (Next.value x):Sem Next).run K u.val)=_;rw[Sem.run_bind,A u];rfl
   simp only[Vb,pjE];refine cla 3 (some 10) 288 #[.agg ds.toArray,l H (r:Int),l H (n:Int)] 24 (by kernel_rfl) ?_;refine(z _).mono ?_;rintro e w9 ⟨rfl,c⟩;replace hW:=hW.trans (c.mono hW.size);clear c;refine⟨_,rfl,⟨⟨_,hW⟩,rfl⟩,?_⟩;simp only[Vb,pjE];refine sgr [(4,2),(7,2)] 20 (by kernel_rfl) ⟨⟨_,hW⟩,rfl⟩ ?_;simp only[pkE];repeat go_big_quiet_step (fail)
   refine wpQuiet_nil ?_;refine qta 6 (some 13) (.agg ds.toArray) 19 (by kernel_rfl) (fun u hu=>?_) ⟨⟨_,hW⟩,rfl⟩ ?_
   ·obtain⟨u,rfl⟩:=hu;show some (((Instr.loadAt 259 (.pointer (some ⟨w.heap.size,0,none⟩)))>>=fun x=>pure (Next.value x):Sem Next).run K u.val)=_;rw[Sem.run_bind,A u];rfl
   simp only[Vb,pjE];refine cla 9 (some 16) 291 #[.agg ds.toArray,l H (r:Int),l H (n:Int)] 18 (by kernel_rfl) ?_;refine(y _).mono ?_;rintro e w9 ⟨rfl,c⟩;replace hW:=hW.trans (c.mono hW.size);clear c;refine⟨_,rfl,⟨⟨_,hW⟩,rfl⟩,?_⟩;simp only[Vb,pjE];refine sgr [(10,5),(17,7)] 6 (by kernel_rfl) ⟨⟨_,hW⟩,rfl⟩ ?_;simp only[pkE];repeat go_big_quiet_step (fail)
   refine wpQuiet_nil ?_;refine ska 15 (some 22) 5 (by kernel_rfl) ⟨⟨_,hW⟩,rfl⟩ ?_;simp only[Vb,pjE];refine ska 16 (some 23) 4 (by kernel_rfl) ⟨⟨_,hW⟩,rfl⟩ ?_;simp only[Vb,pjE];refine ska 24 (some 31) 3 (by kernel_rfl) ⟨⟨_,hW⟩,rfl⟩ ?_;simp only[Vb,pjE];refine sgr [(25,3)] 0 (by kernel_rfl) ⟨⟨_,hW⟩,rfl⟩ ?_;simp only[pkE];repeat go_big_quiet_step (fail)
   refine wpQuiet_nil ?_;refine z0e (by kernel_rfl) ?_;replace d:=d.trans (hW.mono d.size);clear A J cp hW M z y I C
   go_wp2
   go_ret;exact⟨by rw[E2.out];rfl,d⟩
  ·have L:(R !=3)=true:=by simpa using hR
   rw[L]at y HE;clear hR;have E2:Hid (E=mayP qr P):=by rw[HE.out];exact(rfl:_=_)
   generalize mayP qr P=X at*;clear HE;refine z0a (S:=fun w'=>∃u:Lat W,w'=u.val) (by kernel_rfl) ?_;refine sgr [(1,2)] 26 (by kernel_rfl) ⟨⟨_,hW⟩,rfl⟩ ?_;simp only[pkE];repeat go_big_quiet_step (fail)
   refine wpQuiet_nil ?_;refine qta 0 (some 7) (.agg ds.toArray) 25 (by kernel_rfl) (fun u hu=>?_) ⟨⟨_,hW⟩,rfl⟩ ?_
   ·obtain⟨u,rfl⟩:=hu;show some (((Instr.loadAt 259 (.pointer (some ⟨w.heap.size,0,none⟩)))>>=fun x=>pure (Next.value x):Sem Next).run K u.val)=_;rw[Sem.run_bind,A u];rfl
   simp only[Vb,pjE];refine cla 3 (some 10) 288 #[.agg ds.toArray,l H (r:Int),l H (n:Int)] 24 (by kernel_rfl) ?_;refine(z _).mono ?_;rintro e w9 ⟨rfl,c⟩;replace hW:=hW.trans (c.mono hW.size);clear c;refine⟨_,rfl,⟨⟨_,hW⟩,rfl⟩,?_⟩;simp only[Vb,pjE];refine sgr [(4,2),(7,2)] 20 (by kernel_rfl) ⟨⟨_,hW⟩,rfl⟩ ?_;simp only[pkE];repeat go_big_quiet_step (fail)
   refine wpQuiet_nil ?_;refine qta 6 (some 13) (.agg ds.toArray) 19 (by kernel_rfl) (fun u hu=>?_) ⟨⟨_,hW⟩,rfl⟩ ?_
   ·obtain⟨u,rfl⟩:=hu;show some (((Instr.loadAt 259 (.pointer (some ⟨w.heap.size,0,none⟩)))>>=fun x=>pure (Next.value x):Sem Next).run K u.val)=_;rw[Sem.run_bind,A u];rfl
   simp only[Vb,pjE];refine cla 9 (some 16) 291 #[.agg ds.toArray,l H (r:Int),l H (n:Int)] 18 (by kernel_rfl) ?_;refine(y _).mono ?_;rintro e w9 ⟨rfl,c⟩;replace hW:=hW.trans (c.mono hW.size);clear c;refine⟨_,rfl,⟨⟨_,hW⟩,rfl⟩,?_⟩;simp only[Vb,pjE];refine sgr [(10,5),(17,7)] 6 (by kernel_rfl) ⟨⟨_,hW⟩,rfl⟩ ?_;simp only[pkE];repeat go_big_quiet_step (fail)
   refine wpQuiet_nil ?_;refine qta 15 (some 22) (.agg (qr.map iv).toArray) 5 (by kernel_rfl) (fun u hu=>?_) ⟨⟨_,hW⟩,rfl⟩ ?_
   ·obtain⟨u,rfl⟩:=hu;show some (((Instr.loadAt 254 (.pointer (some ⟨w.heap.size,1+r*6,none⟩)))>>=fun x=>pure (Next.value x):Sem Next).run K u.val)=_;rw[Sem.run_bind,J u];rfl
   simp only[Vb,pjE];refine cla 16 (some 23) 290 #[.agg (qr.map iv).toArray] 4 (by kernel_rfl) ?_;refine(I _ N).mono ?_;rintro e w9 ⟨la,lc,rfl,lO,lG,lR,c⟩;replace hW:=hW.trans (c.mono hW.size);have T:=C la lc _ (hG.below (d.trans (hW.mono d.size))) lR;clear lO lG lR;clear c;refine⟨_,rfl,⟨⟨_,hW⟩,rfl⟩,?_⟩;simp only[Vb,pjE];refine cla 24 (some 31) 292 #[m la 3 lc,l H P] 3 (by kernel_rfl) ?_;refine(T).mono ?_;rintro e w9 ⟨rfl,c⟩;replace hW:=hW.trans (c.mono hW.size);clear c;refine⟨_,rfl,⟨⟨_,hW⟩,rfl⟩,?_⟩;simp only[Vb,pjE];refine sgr [(25,3)] 0 (by kernel_rfl) ⟨⟨_,hW⟩,rfl⟩ ?_;simp only[pkE];repeat go_big_quiet_step (fail)
   refine wpQuiet_nil ?_;refine z0e (by kernel_rfl) ?_;replace d:=d.trans (hW.mono d.size);clear A J cp hW M z y I C T
   go_wp2
   go_ret;exact⟨by rw[E2.out];rfl,d⟩
def slA:Value→Option Addr
 | m a _ _=>a
 |_=>none
def slK:Value→Nat
 | m _ _ k=>k
 |_=>0
def TxnQ.p(q:TxnQ):TxnP:=⟨q.e,slA q.va,slK q.va⟩
theorem TxnQ.p_cells{w:World}{q:TxnQ}(h:actK.At w q.va q.acts):q.p.cells=txnK.cells q:=by
 obtain⟨a,c,e⟩:=h.shape;show [_,_,_,_]=[_,_,_,_]
 simp only[TxnP.sl,TxnQ.p,TxnQ.e,e,slA,slK]
theorem z8n{w:World}{v:Value}{ps:List TxnQ}(h:txnK.At w v ps):TxnsAt w v (ps.map TxnQ.e):=by
 obtain⟨a,cap,e,hL,hr⟩:=h;refine⟨a,cap,ps.map TxnQ.p,by rw[Va];exact e,by simp only[List.map_map];rfl,?_,?_⟩
 ·have e2:z0V (ps.map TxnQ.p)=txnK.row ps:=by
   clear hL e;induction ps with
   |nil=>rfl
   |cons q r ih=>
    have h1:q.p.cells=txnK.cells q:=TxnQ.p_cells (hr q (by simp));have h2:=ih (fun p hp=>hr p (List.mem_cons_of_mem _ hp));show q.p.cells++z0V (r.map TxnQ.p)=txnK.cells q++txnK.row r;rw[h1,h2]
  rw[e2];exact hL
 ·intro p hp;obtain⟨q,hq,rfl⟩:=List.mem_map.1 hp;have h1:actK.At w q.va q.acts:=hr q hq;obtain⟨a',c',e',hl',_⟩:=h1;show ActRow w (slA q.va) q.acts;rw[e'];exact hl'
theorem q2d(ps:List TxnQ):z56 (ps.map TxnQ.e)=nmL TxnQ.n ps:=by
 simp only[z56,nmL,List.map_map];rfl
theorem q2e(L:List Int)(x:Int):idxN L x<L.length↔x∈L:=by
 induction L with
 |nil=>simp[idxN]
 |cons y r ih=>
  by_cases h:y=x
  ·simp[idxN,h]
  ·have:¬x=y:=fun e=>h e.symm
   simp[idxN,h,this,ih]
theorem q5g{L:List Int}{x:Int}(h:x∈L):0≤idxI L x:=by
 unfold idxI;rw[if_pos ((q2e L x).2 h)];omega
theorem q3V{L:List Int}{x:Int}(h:x∉L):idxI L x=-1:=by
 unfold idxI;rw[if_neg (fun e=>h ((q2e L x).1 e))]
theorem q04{L:List Int}{k:Nat}(h:(L.take k).Nodup)(hk:k<L.length)(hx:L.getD k 0∉L.take k):(L.take (k+1)).Nodup:=by
 have e:L.getD k 0=L[k]:=by simp[f,hk]
 rw[e]at hx;rw[List.take_succ_eq_append_getElem hk,List.nodup_append];refine⟨h,by simp,fun a ha b hb e=>?_⟩;simp only[List.mem_singleton]at hb;subst hb e;exact hx ha
theorem q2f{L:List Int}{k:Nat}(hk:k<L.length)(hx:L.getD k 0∈L.take k):¬L.Nodup:=by
 intro h;have e:L.getD k 0=L[k]:=by simp[f,hk]
 rw[e]at hx;have h2:(L.take (k+1)).Nodup:=List.Sublist.nodup (List.take_sublist _ _) h;rw[List.take_succ_eq_append_getElem hk,List.nodup_append]at h2;exact h2.2.2 _ hx _ (by simp) rfl
theorem Row.take6{k:IntKind}{w:World}{a:Option Addr}{zs:List Int}(h:Row k w a zs)(j:Nat):Row k w a (zs.take j):=by
 intro i hi;have hi2:i<j∧i<zs.length:=by rw[List.length_take]at hi;omega
 obtain⟨b,off,ha,hlt,hc⟩:=h i hi2.2;refine⟨b,off,ha,hlt,?_⟩;rw[hc];simp[f,List.getElem?_take,hi2.1]
theorem q0h{w:World}{base e s n c:Nat}{a:Option Addr}{xs:List Value}(h:w.ownsRow base e s (m a n c) n xs):n≤c:=by
 rcases h.2 with⟨he,hn⟩|⟨g,cap,cur,he,_,_,hc,_⟩
 ·omega
 ·simp only[Value.slice.injEq,true_and]at he;omega
theorem q6Y(b off n c k:Nat)(hk:k≤c)(w:World):(Instr.sliceAt 115 (m (some ⟨b,off,none⟩) n c) none (some (l H (k:Int))) none).run K w=.ok (m (some ⟨b,off,none⟩) k c) w:=by
 have hel:K.elem 115=2:=by kernel_rfl
 have hun:K.underlying 115=some (.slice (K.elem 115)):=by kernel_rfl
 have hsz:(sizeOf (K.elem 115)).run K w=.ok 1 w:=by rw[hel];kernel_rfl
 rw[run_sliceAt_slice (h:=hun),run_slice_h (ht:=hun) (kh:=.i64) (h:=(k:Int)) (h0:=by omega) (h2:=by omega),hsz];simp only[Result.andThen,sliced,Int.toNat_natCast];split
 ·rename_i h
  simp
 ·simp only[Option.map_some,Addr.add_lit,Nat.zero_mul,Nat.add_zero,Nat.sub_zero]
theorem z3N{ds:List TxnD}(h:ds.length<1∨4<ds.length):batF ds=2:=if_pos h
theorem q0i{ds:List TxnD}(h:¬(ds.length<1∨4<ds.length)):batF ds=if allF ds=0 then(if(ds.map TxnD.id).Nodup then 0 else 6)else allF ds:=if_neg h
theorem z9v(v:Value)(ds:List TxnD)(w:World)(h:TxnsAt w v ds)(hl:ds.length+z56 ds≤1048576):
  Calls K 248 #[v] w fun e w'=>e=.returned (l H (batF ds))∧Below w.heap.size w w':=by
 obtain⟨a,cap,rfl⟩:=h.shape;by_cases Y:ds.length<1
 ·rw[z3N (Or.inl Y)];go_enter func248,ntmps248
  go_wp2
  go_ret;exact⟨rfl,Below.refl _ _⟩
 ·by_cases W:4<ds.length
  ·rw[z3N (Or.inr W)];go_enter func248,ntmps248
   go_wp2
   go_ret;exact⟨rfl,Below.refl _ _⟩
  ·have HB:Hid (batF ds=if allF ds=0 then(if(ds.map TxnD.id).Nodup then 0 else 6)else allF ds):=q0i (by omega);generalize batF ds=E at HB⊢;have ah:1≤ds.length:=by omega
   have X:ds.length≤4:=by omega
   clear Y W;go_enter func248,ntmps248
   go_wp2
   go_loop[3] (fun j=>∃k:Nat,k≤ds.length∧j=l H k∧Hid (∀j,j<k→(ds.getD j z0m).F=0)) (fun j=>ds.length-(intOf j).toNat)
   case atStart=>exact⟨0,Nat.zero_le _,rfl,fun j hj=>absurd hj (Nat.not_lt_zero _)⟩
   case round=>
    obtain⟨k,hk,rfl,HA⟩:=hrel;by_cases y:k<ds.length
    ·obtain⟨b,A,aa,cc,rfl,ad,O,T,U,V,hA⟩:=h.at k y;have aj:(ds.getD k z0m).acts.length≤z56 ds:=z1w (by simp[f,y]);have c:=z5i b (A+k*4) _ _ _ aa cc _ w (TxnsAt.box O T U V) hA (by omega);change Calls _ _ _ _ fun e w'=>e=.returned (l H ((ds.getD k z0m).F))∧_ at c
     clear O T U V hA;by_cases hF:(ds.getD k z0m).F=0
     ·have ab:Hid (∀j,j<k+1→(ds.getD j z0m).F=0):=by
       intro j hj;by_cases ae:j=k
       ·subst ae;exact hF
       ·exact HA.out j (by omega)
      rw[hF]at c;clear HA hF
      go_wp2_with (go_at_call 175;refine c.mono ?_;rintro e w' ⟨rfl,rfl⟩)
      go_round
      case rel=>exact⟨k+1,by omega,by go_num,ab⟩
      case measure=>simp[intOf];omega
     ·have E2:Hid (E=(ds.getD k z0m).F):=by
       have e1:=z6w ds k HA.out y hF;have e2:=HB.out;rw[e1,if_neg hF]at e2;exact e2
      have J:((ds.getD k z0m).F !=0)=true:=by simpa using hF
      clear HA hF HB;generalize (ds.getD k z0m).F=r at c E2 J
      go_wp2_with (go_at_call 175;refine c.mono ?_;rintro e w' ⟨rfl,rfl⟩)
      go_ret;rw[E2.out];exact⟨rfl,Below.refl _ _⟩
    ·have I:k=ds.length:=by omega
     subst I;have E3:Hid (E=if(ds.map TxnD.id).Nodup then 0 else 6):=by
      have e2:=HB.out;rw[if_pos (z8g ds HA.out)]at e2;exact e2
     clear HA HB;have D:=q10 _ ds w h (by omega)
     go_wp2_with fail
     refine D.mono ?_;rintro e w1 ⟨ib,ic,rfl,ho,C⟩;have hR:=Row.own ho;have ag:=q0h ho;have ai:(ds.map TxnD.id).length≤4:=by simpa using X
     clear D ho;generalize ds.map TxnD.id=L at*
     go_wp2
     go_loopw[6] (fun j wr=>∃k:Nat,k≤L.length∧j=l H k∧Hid ((L.take k).Nodup)∧Below w1.heap.size w1 wr) (fun j _=>L.length-(intOf j).toNat)
     case atStart=>exact⟨0,Nat.zero_le _,rfl,show List.Nodup _ by simp,Below.refl _ _⟩
     case round=>
      obtain⟨k,hk,rfl,HA,hb⟩:=hrel;by_cases y:k<L.length
      ·obtain⟨b,A,rfl,ad,hc⟩:=(hR.below hb) k y;have N:(L.take k).length=k:=by simp;omega
       have hT:=(hR.below hb).take6 k;have HY:Hid (L.getD k 0∈L.take k→E=6):=fun hx=>by rw[E3.out,if_neg (q2f y hx)]
       have HN:Hid (L.getD k 0∉L.take k→(L.take (k+1)).Nodup):=fun hx=>q04 HA.out y hx
       have d:=fun w h=>q0Z (some ⟨b,A,none⟩) ic (L.take k) (L.getD k 0) w h (by omega)
       rw[N]at d;clear HA N;have hI:L.getD k 0∈L.take k∨L.getD k 0∉L.take k:=Classical.em _;have HI:Hid ((L.getD k 0∈L.take k∧0≤idxI (L.take k) (L.getD k 0))∨(L.getD k 0∉L.take k∧idxI (L.take k) (L.getD k 0)=-1)):=hI.elim (fun h=>Or.inl ⟨h,q5g h⟩) (fun h=>Or.inr ⟨h,q3V h⟩);clear hI;generalize L.getD k 0=z at*;generalize idxI (L.take k) z=q at*;have k0:=z0d hc;clear hc;have hW:Below wr.heap.size wr wr.drew:=(Below.refl _ _).drew;have J:Nonempty (Lat wr):=⟨⟨wr,Below.refl _ _⟩⟩
       have af:(k:Int)≤(ic:Int):=by omega
       go_wp2_with fail
       refine z0a (S:=fun w'=>∃u:Lat wr,w'=u.val) (by kernel_rfl) ?_;refine sgr [(0,2)] 7 (by kernel_rfl) ⟨⟨_,hW⟩,rfl⟩ ?_;simp only[pkE];repeat go_big_quiet_step (fail)
       refine wpQuiet_nil ?_;have Z:=q6Y b A L.length ic k (by omega);refine qta 2 (some 38) (m (some ⟨b,A,none⟩) k ic) 6 (by kernel_rfl) (fun u _=>?_) ⟨⟨_,hW⟩,rfl⟩ ?_
       ·show some (((Instr.sliceAt 115 (m (some ⟨b,A,none⟩) L.length ic) none (some (l H (k:Int))) none)>>=fun x=>pure (Next.value x):Sem Next).run K u)=_;rw[Sem.run_bind,Z u];rfl
       clear Z;simp only[Vb,pjE];refine sgr [(3,4)] 2 (by kernel_rfl) ⟨⟨_,hW⟩,rfl⟩ ?_;simp only[pkE];repeat go_big_quiet_step (fail)
       refine wpQuiet_nil ?_;refine cla 7 (some 43) 250 #[m (some ⟨b,A,none⟩) k ic,l H z] 1 (by kernel_rfl) ?_;refine(d _ (hT.below hW)).mono ?_;rintro e w2 ⟨rfl,M⟩;replace M:=M.symm;subst M;refine⟨_,rfl,⟨⟨_,hW⟩,rfl⟩,?_⟩;simp only[Vb,pjE];refine sgr [(8,1)] 0 (by kernel_rfl) ⟨⟨_,hW⟩,rfl⟩ ?_;simp only[pkE];repeat go_big_quiet_step (fail)
       refine wpQuiet_nil ?_;refine z0e (by kernel_rfl) ?_;replace hb:=hb.trans (hW.mono hb.size);clear k0 hW J d hT af;generalize wr.drew=wd at*;by_cases hq:0≤q
       ·have E5:Hid (E=6):=by
         rcases HI.out with h|h
         ·exact HY.out h.1
         ·omega
        clear HI HY HN E3
        go_wp2
        go_ret;exact⟨by rw[E5.out];rfl,C.trans (hb.mono C.size)⟩
       ·have R:Hid ((L.take (k+1)).Nodup):=by
         rcases HI.out with h|h
         ·omega
         ·exact HN.out h.1
        clear HI HY HN
        go_wp2
        go_roundw
        case rel=>exact⟨k+1,by omega,by go_num,R,hb⟩
        case measure=>simp[intOf];omega
      ·have I:k=L.length:=by omega
       subst I;rw[List.take_length]at HA;have E4:Hid (E=0):=by
        have:=E3.out;rw[if_pos HA.out]at this;exact this
       clear HA E3
       go_wp2
       go_ret;exact⟨by rw[E4.out];rfl,C.trans (hb.mono C.size)⟩
end Go.Proofs.YtlkpdgjnhkjpjaaGreatDoor

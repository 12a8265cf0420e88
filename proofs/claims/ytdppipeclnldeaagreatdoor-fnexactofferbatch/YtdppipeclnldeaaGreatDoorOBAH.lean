import Derived.Test.YtdppipeclnldeaaGreatDoorOBAG
set_option linter.unusedVariables false
set_option linter.unusedSimpArgs false
set_option maxRecDepth 100000
set_option maxHeartbeats 4000000
namespace Go.Proofs.YtdppipeclnldeaaGreatDoor
open Go.RowKit Go.BigFrame
open InstQ renaming e->Va,n->Vb
open Nat renaming le_refl->Vc,zero_le->Vd
open List renaming getD->Ve,length_map->Vf,mem_singleton->Vg,take_succ_eq_append_getElem->Vk
open Blk renaming new->Vh
open Act renaming put->Vi
open Out renaming setCell->Vj
open IntKind renaming i64->H
open Value renaming int->f,slice->G
open Go.Proofs.Tryz renaming prog->Sl
open Go.Proofs.Tryz
def bdOf(p:InstQ):List Value:=if insF p.e=0 then brdC p.has p.vb p.e.rounds p.dec else brd0
theorem z1Z{x:InstE}(h:insF x=0):shpF x=0∧q5Y x=true:=by
 unfold insF at h;by_cases h0:shpF x=0
 ·rw[if_pos h0]at h;refine⟨h0,?_⟩;by_cases h1:q5Y x=true
  ·exact h1
  ·rw[if_neg h1]at h;simp at h
 ·rw[if_neg h0]at h;exact absurd h h0
theorem z8A{x:InstE}(h:insF x=0):Wel x.rounds∧(1≤x.rounds.length∧x.rounds.length≤4)∧x.dec.length=3∧z0R x.rounds=0∧vf x.dec 1=0:=by
 obtain⟨h0,_⟩:=z1Z h;obtain⟨h1,h2,h3,_⟩:=z1r h0;exact⟨q4L h2,h1,z07 h3,h2,h3⟩
theorem q5q {has:Bool} {vb:Value} {rs:List RoundE} {dec:List Int} (hv:vb.oneCell' = true):(brdC has vb rs dec).toArray.all (·.oneCell')=true:=all_oneCell_toArray (fun v hm=>by
 simp only[brdC,rndC,z4q,List.mem_append,List.mem_cons,List.mem_flatMap,List.mem_replicate,List.mem_map,z1g,List.not_mem_nil,or_false]at hm;rcases hm with (rfl | ⟨r,_,z,_,rfl⟩ | ⟨_,rfl⟩) | (rfl | rfl) | ⟨z,_,rfl⟩ <;> first | rfl | exact hv)
theorem q5r{w:World}{p:InstQ}(h:instK.rd w p):(bdOf p).length=30∧(bdOf p).toArray.all (·.oneCell')=true:=by
 unfold bdOf;by_cases h0:insF p.e=0
 ·rw[if_pos h0];obtain⟨h1,h2,h3,_⟩:=z8A h0;refine⟨z2k h1 h2.2 h3,q5q ?_⟩;obtain⟨a,c,e⟩:=h.1.shape;rw[e];rfl
 ·rw[if_neg h0];exact⟨rfl,by kernel_rfl⟩
theorem z2O(p:InstQ)(w:World)(hG:Rul w)(h:instK.rd w p)(hl:p.n≤1048576):
  Calls Sl 124 #[.agg #[.bool p.has,p.vb,p.vr,p.vd]] w fun e w'=>e=.returned (f H (insF p.e))∧Below w.heap.size w w':=by
 obtain⟨z,I⟩:=q5r h;have y:=fun w hG h=>z3G p w hG h hl
 have A:=fun(w':World) hb=>instK.rd_below (w':=w') h hb
 change∀w hG h,Calls _ _ _ _ fun e w'=>e=.returned (.tuple #[.agg (bdOf p).toArray,_])∧_ at y
 generalize bdOf p=BD at*;generalize insF p.e=C at*;obtain⟨has,vb,x,vr,d,vd,dec⟩:=p;obtain⟨ba,bk,rfl⟩:∃a c,vb=G a x.length c:=h.1.shape;obtain⟨va,vk,rfl⟩:∃a c,vr=G a d.length c:=h.2.1.shape;obtain⟨da,dk,rfl⟩:∃a c,vd=G a dec.length c:=h.2.2.shape;dsimp only at y A;have hB:Below w.heap.size w (w.alloc (.cells #[.bool has,G ba x.length bk,G va d.length vk,G da dec.length dk] 64)):=by go_grown
 have J:(Sl.info? 105).map (·.size)=some BD.toArray.size:=by rw[List.size_toArray,z];exact z2l
 have E:(#[f H 0,f H 0,f H 0,f H 0,f H 0,f H 0,f H 0,f H 0,f H 0,f H 0,f H 0,f H 0,f H 0,f H 0,f H 0,f H 0,f H 0,f H 0,f H 0,f H 0,f H 0,f H 0,f H 0,f H 0,f H 0,.bool false,G none 0 0,f H 0,f H 0,f H 0]:Array Value).size=BD.toArray.size:=(show 30=BD.length from z.symm)
 go_enter func124,ntmps124
 go_wp2_with fail
 generalize w.alloc (.cells #[.bool has,G ba x.length bk,G va d.length vk,G da dec.length dk] 64)=W at*;refine(y W (hG.below hB) (A W hB)).mono ?_;rintro e w1 ⟨rfl,D⟩;replace hB:=hB.trans (D.mono hB.size);have Bz:=Vh w1 105 #[f H 0,f H 0,f H 0,f H 0,f H 0,f H 0,f H 0,f H 0,f H 0,f H 0,f H 0,f H 0,f H 0,f H 0,f H 0,f H 0,f H 0,f H 0,f H 0,f H 0,f H 0,f H 0,f H 0,f H 0,f H 0,.bool false,G none 0 0,f H 0,f H 0,f H 0];have L:=z0m (hB.alloc hB.size (.cells #[f H 0,f H 0,f H 0,f H 0,f H 0,f H 0,f H 0,f H 0,f H 0,f H 0,f H 0,f H 0,f H 0,f H 0,f H 0,f H 0,f H 0,f H 0,f H 0,f H 0,f H 0,f H 0,f H 0,f H 0,f H 0,.bool false,G none 0 0,f H 0,f H 0,f H 0] 105)) (g:=w1.heap.size) hB.size BD.toArray;clear y A D
 go_wp2_with (refine z0s (by kernel_rfl) 105 _ _ rfl _ BD.toArray rfl rfl 105 _ Bz J E I ?_)
 go_ret;exact⟨rfl,L⟩
def outV:List Int→Int
 |[]=>3
 |x::r=>if x=3 then outV r else x
theorem q2F(L:List Int):∀k,(∀j,j<k→L.getD j 0=3)→k<L.length→L.getD k 0≠3→outV L=L.getD k 0:=by
 induction L with
 |nil=>intro k _ h;simp at h
 |cons x r ih=>
  intro k h0 hk hne
  cases k with
  |zero=>simp[Ve]at hne⊢;simp[outV,hne]
  |succ k=>
   have hx:x=3:=by simpa[Ve]using h0 0 (by omega)
   have:=ih k (fun j hj=>by simpa[Ve]using h0 (j+1) (by omega)) (by simpa using hk) (by simpa[Ve]using hne);simp only[outV,hx,if_true];rw[this];simp[Ve]
theorem z8B(L:List Int)(h:∀j,j<L.length→L.getD j 0=3):outV L=3:=by
 induction L with
 |nil=>rfl
 |cons x r ih=>
  have hx:x=3:=by simpa[Ve]using h 0 (by simp)
  simp only[outV,hx,if_true];exact ih (fun j hj=>by simpa[Ve]using h (j+1) (by simpa using hj))
def ocC(x:InstE):Int:=if insF x=0 then(if outV x.dec=3 then 4 else 0)else insF x
def ocV(x:InstE):Int:=if insF x=0 then(if outV x.dec=3 then 0 else outV x.dec)else 0
theorem z2P(p:InstQ)(w:World)(hG:Rul w)(h:instK.rd w p)(hl:p.n≤1048576):
  Calls Sl 162 #[.agg #[.bool p.has,p.vb,p.vr,p.vd]] w fun e w'=>e=.returned (.agg #[f H (ocC p.e),f H (ocV p.e)])∧Below w.heap.size w w':=by
 obtain⟨N,T⟩:=q5r h;have M:=fun w hG h=>z3G p w hG h hl
 have Y:=fun(w':World) hb=>instK.rd_below (w':=w') h hb
 change∀w hG h,Calls _ _ _ _ fun e w'=>e=.returned (.tuple #[.agg (bdOf p).toArray,_])∧_ at M
 have J:Hid (insF p.e=0→bdOf p=brdC p.has p.vb p.e.rounds p.dec∧Wel p.e.rounds∧p.e.rounds.length≤4∧p.dec.length=3):=fun h0=>by
  obtain⟨h1,h2,h3,_⟩:=z8A h0;exact⟨if_pos h0,h1,h2.2,h3⟩
 obtain⟨D,hD⟩:∃D,ocC p.e=D:=⟨_,rfl⟩
 obtain⟨E,hE⟩:∃E,ocV p.e=E:=⟨_,rfl⟩
 have z:Hid ((insF p.e=0→(D=if outV p.dec=3 then 4 else 0)∧(E=if outV p.dec=3 then 0 else outV p.dec))∧(insF p.e≠0→D=insF p.e∧E=0)):=by
  refine⟨fun h0=>⟨?_,?_⟩,fun h0=>⟨?_,?_⟩⟩
  ·rw[←hD];exact if_pos h0
  ·rw[←hE];exact if_pos h0
  ·rw[←hD];exact if_neg h0
  ·rw[←hE];exact if_neg h0
 rw[hD,hE];clear hD hE;generalize bdOf p=BD at*;generalize insF p.e=C at*;generalize p.e.rounds=rs at*;obtain⟨has,vb,x,vr,d,vd,dec⟩:=p;obtain⟨ba,bk,rfl⟩:∃a c,vb=G a x.length c:=h.1.shape;obtain⟨va,vk,rfl⟩:∃a c,vr=G a d.length c:=h.2.1.shape;obtain⟨da,dk,rfl⟩:∃a c,vd=G a dec.length c:=h.2.2.shape;dsimp only at M Y J z;have hB:Below w.heap.size w ((w.alloc (.cells #[.bool has,G ba x.length bk,G va d.length vk,G da dec.length dk] 64)).alloc (.cells #[f H 0,f H 0] 184)):=by go_grown
 have Rb:=Vh (w.alloc (.cells #[.bool has,G ba x.length bk,G va d.length vk,G da dec.length dk] 64)) 184 #[f H 0,f H 0];simp only[World.size_alloc]at Rb;have U:(Sl.info? 105).map (·.size)=some BD.toArray.size:=by rw[List.size_toArray,N];exact z2l
 have O:(#[f H 0,f H 0,f H 0,f H 0,f H 0,f H 0,f H 0,f H 0,f H 0,f H 0,f H 0,f H 0,f H 0,f H 0,f H 0,f H 0,f H 0,f H 0,f H 0,f H 0,f H 0,f H 0,f H 0,f H 0,f H 0,.bool false,G none 0 0,f H 0,f H 0,f H 0]:Array Value).size=BD.toArray.size:=(show 30=BD.length from N.symm)
 go_enter func162,ntmps162
 go_wp2_with fail
 generalize (w.alloc (.cells #[.bool has,G ba x.length bk,G va d.length vk,G da dec.length dk] 64)).alloc (.cells #[f H 0,f H 0] 184)=W at*;refine(M W (hG.below hB) (Y W hB)).mono ?_;rintro e w1 ⟨rfl,V⟩;replace hB:=hB.trans (V.mono hB.size);replace Rb:=Rb.below V;have Bz:=Vh w1 105 #[f H 0,f H 0,f H 0,f H 0,f H 0,f H 0,f H 0,f H 0,f H 0,f H 0,f H 0,f H 0,f H 0,f H 0,f H 0,f H 0,f H 0,f H 0,f H 0,f H 0,f H 0,f H 0,f H 0,f H 0,f H 0,.bool false,G none 0 0,f H 0,f H 0,f H 0];have L:=z0m (hB.alloc hB.size (.cells #[f H 0,f H 0,f H 0,f H 0,f H 0,f H 0,f H 0,f H 0,f H 0,f H 0,f H 0,f H 0,f H 0,f H 0,f H 0,f H 0,f H 0,f H 0,f H 0,f H 0,f H 0,f H 0,f H 0,f H 0,f H 0,.bool false,G none 0 0,f H 0,f H 0,f H 0] 105)) (g:=w1.heap.size) hB.size BD.toArray;have A:Blk ((w1.alloc (.cells #[f H 0,f H 0,f H 0,f H 0,f H 0,f H 0,f H 0,f H 0,f H 0,f H 0,f H 0,f H 0,f H 0,f H 0,f H 0,f H 0,f H 0,f H 0,f H 0,f H 0,f H 0,f H 0,f H 0,f H 0,f H 0,.bool false,G none 0 0,f H 0,f H 0,f H 0] 105)).setRow w1.heap.size BD.toArray) (w.heap.size+1) 184 #[f H 0,f H 0]:=(setRow_other _ _ _ _ (by have:=Rb.lt;omega)).trans (Rb.below ((Below.refl _ _).alloc (Vc _) _));have B2:=Bz.row BD.toArray;clear M Y V Rb;by_cases h0:C=0
 ·obtain⟨Z,ad,h4,I⟩:=J.out h0;have HD:Hid (D=if outV dec=3 then 4 else 0):=(z.out.1 h0).1;have HV:Hid (E=if outV dec=3 then 0 else outV dec):=(z.out.1 h0).2;subst h0;have aa:=rng B2 (dec.map iv) (o:=27) (fun j v hv=>by
   obtain⟨hj,rfl⟩:=row_get I hv;rw[List.getElem?_toArray,Z];exact z9H ad h4 I j hj)
  have ab:(Sl.info? 98).map (·.size)=some (dec.map iv).length:=by rw[Vf,I];exact z3W
  clear J z Z
  go_wp2_with (first|(refine z0s (by kernel_rfl) 105 _ _ rfl _ BD.toArray rfl rfl 105 _ Bz U O T ?_)|(refine z9J (by kernel_rfl) 98 _ rfl _ _ rfl (dec.map iv) _ aa Tryz.underlying98 rfl ab ?_))
  clear aa Bz;generalize (w1.alloc (.cells #[f H 0,f H 0,f H 0,f H 0,f H 0,f H 0,f H 0,f H 0,f H 0,f H 0,f H 0,f H 0,f H 0,f H 0,f H 0,f H 0,f H 0,f H 0,f H 0,f H 0,f H 0,f H 0,f H 0,f H 0,f H 0,.bool false,G none 0 0,f H 0,f H 0,f H 0] 105)).setRow w1.heap.size BD.toArray=X at*;go_loopw[18] (fun j wr=>∃m:Nat,m≤3∧j=f H m∧Hid (∀j,j<m→dec.getD j 0=3)∧wr=X) (fun j _=>3-(intOf j).toNat)
  case atStart=>exact⟨0,Vd _,rfl,fun j hj=>absurd hj (Nat.not_lt_zero _),rfl⟩
  case round=>
   obtain⟨m,hm,rfl,HA,rfl⟩:=hrel;obtain⟨q0,q1⟩:=A.cel2;obtain⟨f0,f1⟩:=A.frz2;by_cases af:m<3
   ·have ai:(m:Int)<3:=by omega
    have ak:=fun w=>q2C I m af w
    have HY:Hid (dec.getD m 0≠3→outV dec=dec.getD m 0):=fun hx=>q2F dec m HA.out (by omega) hx
    have HN:Hid (dec.getD m 0=3→∀j,j<m+1→dec.getD j 0=3):=fun hx j hj=>by
     by_cases ae:j=m
     ·subst ae;exact hx
     ·exact HA.out j (by omega)
    clear HA;generalize dec.getD m 0=v at*;by_cases hv:v=3
    ·have ah:(v !=3)=false:=by simp[hv]
     have R:=HN.out hv;have HR:Hid _:=R;clear HY HN R hv
     go_wp2
     go_roundw
     case rel=>exact⟨m+1,by omega,by go_num,HR.out,by first|rfl|trivial⟩
     case measure=>simp[intOf];omega
    ·have ah:(v !=3)=true:=by simpa using hv
     have y:=HY.out hv;have E1:Hid (D=0∧E=v):=by
      refine⟨?_,?_⟩
      ·rw[HD.out,y,if_neg hv]
      ·rw[HV.out,y,if_neg hv]
     clear HY HN HD HV y hv
     go_wp2
     exact bodyPost_ret (v:=.agg #[f H 0,f H v]) (by simp[results,results162,go_sem,q0,q1]) rfl ⟨by rw[E1.out.1,E1.out.2],(L.setCell (p:=⟨w.heap.size+1,0,none⟩) (by show w.heap.size≤w.heap.size+1;omega) _).setCell (p:=⟨w.heap.size+1,1,none⟩) (by show w.heap.size≤w.heap.size+1;omega) _⟩
   ·have ag:m=3:=by omega
    subst ag;have y:=z8B dec (by rw[I];exact HA.out);have E1:Hid (D=4∧E=0):=by
     refine⟨?_,?_⟩
     ·rw[HD.out,y,if_pos rfl]
     ·rw[HV.out,y,if_pos rfl]
    clear HA HD HV y
    go_wp2
    exact bodyPost_ret (v:=.agg #[f H 4,f H 0]) (by simp[results,results162,go_sem,q0,q1]) rfl ⟨by rw[E1.out.1,E1.out.2],(L.setCell (p:=⟨w.heap.size+1,0,none⟩) (by show w.heap.size≤w.heap.size+1;omega) _).setCell (p:=⟨w.heap.size+1,1,none⟩) (by show w.heap.size≤w.heap.size+1;omega) _⟩
 ·have E1:Hid (D=C∧E=0):=z.out.2 h0;have aj:(C !=0)=true:=by simpa using h0
  obtain⟨q0,q1⟩:=A.cel2;obtain⟨f0,f1⟩:=A.frz2;clear z J h0 B2 A;generalize hX:(w1.alloc (.cells #[f H 0,f H 0,f H 0,f H 0,f H 0,f H 0,f H 0,f H 0,f H 0,f H 0,f H 0,f H 0,f H 0,f H 0,f H 0,f H 0,f H 0,f H 0,f H 0,f H 0,f H 0,f H 0,f H 0,f H 0,f H 0,.bool false,G none 0 0,f H 0,f H 0,f H 0] 105)).setRow w1.heap.size BD.toArray=X at q0 q1 f0 f1 L
  go_wp2_with (refine z0s (by kernel_rfl) 105 _ _ rfl _ BD.toArray rfl rfl 105 _ Bz U O T ?_)
  exact bodyPost_ret (v:=.agg #[f H C,f H 0]) (by simp[results,results162,go_sem,q0,q1]) rfl ⟨by rw[E1.out.1,E1.out.2],(L.setCell (p:=⟨w.heap.size+1,0,none⟩) (by show w.heap.size≤w.heap.size+1;omega) _).setCell (p:=⟨w.heap.size+1,1,none⟩) (by show w.heap.size≤w.heap.size+1;omega) _⟩
theorem z2n(b o:Nat)(p:InstQ)(w:World)(hP:InstP w b o p)(hl:p.n≤1048576):
  Calls Sl 61 #[.pointer (some ⟨b,o,none⟩)] w fun e w'=>e=.returned (f H (outV p.dec))∧w'=w:=by
 obtain⟨has,vb,batch,vr,rounds,vd,dec⟩:=p;have hD:intK.At w vd dec:=hP.dec;obtain⟨da,dk,rfl⟩:=hD.shape;have hRow:=(z0P hD).2;obtain⟨c0,c1,c2,c3⟩:=hP.box;dsimp only[Vb]at c0 c1 c2 c3 hl⊢;generalize hE:outV dec=E;have HE:Hid (outV dec=E):=hE;clear hE;go_enter func61,ntmps61
 go_wp2
 go_loop[3] (fun j=>∃k:Nat,k≤dec.length∧j=f H k∧Hid (∀j,j<k→dec.getD j 0=3)) (fun j=>dec.length-(intOf j).toNat)
 case atStart=>exact⟨0,Vd _,rfl,fun j hj=>absurd hj (Nat.not_lt_zero _)⟩
 case round=>
  obtain⟨k,hk,rfl,HA⟩:=hrel;by_cases hlt:k<dec.length
  ·obtain⟨bb,off,rfl,hbs,hc⟩:=hRow k hlt;have HY:Hid (dec.getD k 0≠3→E=dec.getD k 0):=fun hx=>by rw[←HE.out];exact q2F dec k HA.out hlt hx
   have HN:Hid (dec.getD k 0=3→∀j,j<k+1→dec.getD j 0=3):=fun hx j hj=>by
    by_cases hjm:j=k
    ·subst hjm;exact hx
    ·exact HA.out j (by omega)
   clear HA;generalize dec.getD k 0=v at*;by_cases hv:v=3
   ·have hv':(v !=3)=false:=by simp[hv]
    have R:=HN.out hv;have HR:Hid _:=R;clear HY HN R hv
    go_wp2
    go_round
    case rel=>exact⟨k+1,by omega,by go_num,HR.out⟩
    case measure=>simp[intOf];omega
   ·have hv':(v !=3)=true:=by simpa using hv
    have E1:Hid (E=v):=HY.out hv;clear HY HN hv
    go_wp2
    go_ret;exact⟨by rw[E1.out];rfl,rfl⟩
  ·have hkl:k=dec.length:=by omega
   subst hkl;have E1:Hid (E=3):=by rw[←HE.out];exact z8B dec HA.out
   clear HA HE
   go_wp2
   go_ret;exact⟨by rw[E1.out];rfl,rfl⟩
section
variable {P:Type} {K:Kind P} {w w':World} {v v':Value} {ps:List P} {p:P} {B:Nat}
theorem Kind.row_snoc(ps:List P)(p:P):K.row (ps++[p])=K.row ps++K.cells p:=by simp[Kind.row]
theorem Kind.Own.snoc(h:K.Own w v ps)(L:(K.fp v ps).Nodup)(C:∀k∈K.fp v ps,B≤k)(hp:K.own w p)(M:(K.foot p).Nodup)(z:∀k∈K.foot p,k∉K.fp v ps)(D:∀k∈K.foot p,B≤k)(hB:B≤w.heap.size)
  (I:w'.ownsRow 0 K.ty K.size v' (ps.length+1) (K.row ps++K.cells p)) (hg:w.grownBy w' v.ownBlock) (c:v'.ownBlock=v.ownBlock∨v'.ownBlock=some w.heap.size):
  K.Own w' v' (ps++[p])∧(K.fp v' (ps++[p])).Nodup∧(∀k∈K.fp v' (ps++[p]),B≤k)∧Out (blk v) w w':=by
 have hO:Out (blk v) w w':=Out.of_grown hg;have d:=List.nodup_append.1 L;have J:=h.lt;have E:=K.own_lt hp;have A:(ps++[p]).flatMap K.foot=ps.flatMap K.foot++K.foot p:=by simp
 refine⟨⟨?_,?_⟩,?_,?_,hO⟩
 ·rw[List.length_append,List.length_singleton,Kind.row_snoc];exact I
 ·intro q hq;rcases List.mem_append.1 hq with hq|hq
  ·exact K.own_out (h.2 q hq) hO (fun k hk y=>d.2.2 k y k (List.mem_flatMap.2 ⟨q,hq,hk⟩) rfl)
  ·simp only[Vg]at hq;subst hq;exact K.own_out hp hO (fun k hk y=>z k hk (by simp only[Kind.fp,List.mem_append];exact Or.inl y))
 ·unfold Kind.fp;rw[A];have x:(ps.flatMap K.foot++K.foot p).Nodup:=List.nodup_append.2 ⟨d.2.1,M,fun a ha b hb e=>z b hb (by simp only[Kind.fp,List.mem_append];exact Or.inr (e▸ha))⟩;rcases c with c|c
  ·have e:blk v'=blk v:=by unfold blk;rw[c]
   rw[e];refine List.nodup_append.2 ⟨d.1,x,fun a ha b hb e=>?_⟩;subst e;rcases List.mem_append.1 hb with hb|hb
   ·exact d.2.2 a ha a hb rfl
   ·exact z a hb (by simp only[Kind.fp,List.mem_append];exact Or.inl ha)
  ·have e:blk v'=[w.heap.size]:=by unfold blk;rw[c];rfl
   rw[e];refine List.nodup_append.2 ⟨by simp,x,fun a ha b hb e=>?_⟩;simp only[Vg]at ha;subst e ha;rcases List.mem_append.1 hb with hb|hb
   ·have:=J _ (show w.heap.size∈K.fp v ps by simp only[Kind.fp,List.mem_append];exact Or.inr hb);omega
   ·have:=E _ hb;omega
 ·intro k hk;unfold Kind.fp at hk;rw[A]at hk;rcases List.mem_append.1 hk with hk|hk
  ·rcases c with c|c
   ·exact C k (by simp only[Kind.fp,List.mem_append];left;unfold blk at hk⊢;rw[c]at hk;exact hk)
   ·unfold blk at hk;rw[c]at hk;simp only[Option.toList,Vg]at hk;omega
  ·rcases List.mem_append.1 hk with hk|hk
   ·exact C k (by simp only[Kind.fp,List.mem_append];exact Or.inr hk)
   ·exact D k hk
theorem Kind.own_nil(w:World):K.Own w (G none 0 0) ([]:List P)∧(K.fp (G none 0 0) ([]:List P))=[]:=⟨⟨World.ownsRow_nil _ _ _ _,fun p hp=>by simp at hp⟩,by simp[Kind.fp,blk,Value.ownBlock]⟩
end
theorem z1s(v:Value)(ps:List TxnQ)(w:World)(h:txnK.At w v ps)(ax:∀p∈ps,0<p.acts.length)(hl:ps.length+nmL TxnQ.n ps≤1048576):
  Calls Sl 86 #[v] w fun e w'=>∃v' qs,e=.returned v'∧qs.map TxnQ.e=ps.map TxnQ.e∧txnK.Own w' v' qs∧(txnK.fp v' qs).Nodup∧(∀k∈txnK.fp v' qs,w.heap.size≤k)∧Below w.heap.size w w':=by
 obtain⟨a,cap,rfl⟩:=h.shape;obtain⟨i0,hi,aB,aC,aD⟩:=info_parts z1A;obtain⟨ai,aj⟩:=Kind.own_nil (K:=txnK) w;have X:Hid ((txnK.fp (G none 0 0) ([]:List TxnQ)).Nodup∧∀k∈txnK.fp (G none 0 0) ([]:List TxnQ),w.heap.size≤k):=by
  rw[aj];exact⟨by simp,by simp⟩
 clear aj;go_enter func86,ntmps86
 go_wp2
 go_loopw[3,8] (fun v j wr=>∃ (k:Nat) (qs:List TxnQ),k≤ps.length∧j=f H k∧Hid (qs.map TxnQ.e=(ps.take k).map TxnQ.e)∧txnK.Own wr v qs∧Hid ((txnK.fp v qs).Nodup∧∀k∈txnK.fp v qs,w.heap.size≤k)∧Below w.heap.size w wr) (fun _ j _=>ps.length-(intOf j).toNat)
 case atStart=>exact⟨0,[],Vd _,rfl,(rfl:_=_),ai,X,Below.refl _ _⟩
 case round=>
  clear X ai;obtain⟨k,qs,hk,rfl,HE,hO,HN,hb⟩:=hrel;obtain⟨sa,sc,rfl⟩:=hO.shape;have ad:Hid (qs.length=k):=by
   have:=congrArg List.length HE.out;rw[Vf,Vf,List.length_take]at this;show qs.length=k;omega
  by_cases M:k<ps.length
  ·obtain⟨b,aE,rfl,aG,hc,d⟩:=(h.below hb).cell (by decide) k M;have A:∀j x,(txnK.cells ps[k])[j]?=some x→wr.cell? ⟨b,aE+k*4+j,none⟩=some x:=hc;have c0:=A 0 (f H ps[k].i) rfl;have c1:=A 1 (f H ps[k].s) rfl;have c2:=A 2 (f H ps[k].q) rfl;have c3:=A 3 (ps[k].va) rfl;have V:=z01 TxnQ.n ps k M;have D:=ax _ (List.getElem_mem M);have Z:Hid (∀p':TxnQ,p'.e=TxnQ.e ps[k]→(qs++[p']).map TxnQ.e=(ps.take (k+1)).map TxnQ.e):=fun p' ay=>by
    rw[Vk M,List.map_append,List.map_append,HE.out,List.map_singleton,List.map_singleton,ay]
   clear hc A;generalize ps[k]=p at*;obtain⟨i,s,q,va,c⟩:=p;replace d:actK.At wr va c:=d;replace V:c.length≤nmL TxnQ.n ps:=V;obtain⟨aa,ac,rfl⟩:=d.shape;dsimp only at c0 c1 c2 c3 D;obtain⟨ab,ao,au⟩:∃ab ao,aa=some ⟨ab,ao,none⟩:=by
    rcases(z0Z d).2 with h0|⟨ab,ao,e,_⟩
    ·have:=z0t c;rw[h0]at this;simp at this;omega
    ·exact⟨ab,ao,e⟩
   subst au;have L:Below wr.heap.size wr (wr.alloc (.cells #[f H i,f H s,f H q,G (some ⟨ab,ao,none⟩) c.length ac] 152)):=by go_grown
   have ag:=z2I i s q ab ao ac c _ ((z0Z d).2.below L) D (by omega);rw[Nat.add_zero]at c0;replace hO:=hO.below L;replace hb:=hb.trans (L.mono hb.size);clear HE L
   go_wp2_with fail
   clear c0 c1 c2 c3;generalize wr.alloc (.cells #[f H i,f H s,f H q,G (some ⟨ab,ao,none⟩) c.length ac] 152)=Y at*;have aF:w.heap.size≤Y.heap.size:=hb.size;refine ag.mono ?_;rintro e w2 ⟨a2,c2,rfl,am,I⟩;have W:=hO.lt;replace hO:=hO.below I;replace hb:=hb.trans (I.mono hb.size);obtain⟨o2,ah⟩:=z0B am;have hP:txnK.own w2 ⟨i,s,q,G a2 c.length c2,c⟩:=⟨o2,fun _ _=>trivial⟩
   have y:∀x∈txnK.foot ⟨i,s,q,G a2 c.length c2,c⟩,Y.heap.size≤x:=fun x hx=>ah x (by rw[←z1b (G a2 c.length c2) c];exact hx)
   have af:(txnK.foot ⟨i,s,q,G a2 c.length c2,c⟩).Nodup:=by
    show(actK.fp _ _).Nodup;rw[z1b];exact z0x _
   have z:Below w2.heap.size w2 (w2.alloc (.cells #[f H i,f H s,f H q,G a2 c.length c2] 152)):=by go_grown
   have T:=hO.below z;have ae:=txnK.own_out (F:=[]) hP (Out.of_below z) (fun _ _=>by simp);have J:=hb.trans (z.mono hb.size);clear ag am hO hP ah;have E:=T.1
   go_wp2_with (at_builtin;refine wpList_append_own_at _ rfl _ _ 51 rfl 0 152 i0 (.agg #[f H 0,f H 0,f H 0,G none 0 0]) 4 48 Tryz.underlying51 hi aB aC aD rfl (by decide) _ qs.length (txnK.row qs) rfl E ⟨w2.heap.size,0,none⟩ 1 1 [f H i,f H s,f H q,G a2 c.length c2] rfl rfl ?c1 ?c2 ?c3 ?c4 ?c5 ?_)
   all_goals try(case c1=>intro j u hj;match j,hj with|0,hj=>simp at hj;subst hj;simp[Addr.add]|1,hj=>simp at hj;subst hj;simp[Addr.add]|2,hj=>simp at hj;subst hj;simp[Addr.add]|3,hj=>simp at hj;subst hj;simp[Addr.add])
   all_goals try(case c2=>intro u hu;simp at hu;rcases hu with rfl|rfl|rfl|rfl<;>rfl)
   all_goals try(case c3=>have:=ad.out;unfold maxLen;omega)
   all_goals try(case c4=>have:=ad.out;omega)
   all_goals try(case c5=>first|omega|simp)
   intro v' w5 O C al U;clear al E;rw[show w2.heap.size+1=(w2.alloc (.cells #[f H i,f H s,f H q,G a2 c.length c2] 152)).heap.size from(World.size_alloc _ _).symm]at U;generalize az:w2.alloc (.cells #[f H i,f H s,f H q,G a2 c.length c2] 152)=WA at*;clear az;have aH:Y.heap.size≤WA.heap.size:=by have:=I.size;have:=z.size;omega
   obtain⟨ar,ak,N,an⟩:=T.snoc HN.out.1 HN.out.2 ae af (fun x hx aA=>by have:=W x aA;have:=y x hx;omega) (fun x hx=>by have:=y x hx;omega) J.size O C U;have av:Below w.heap.size w w5:=Out.keep J an J.size (fun x hx=>HN.out.2 x (by simp only[Kind.fp,List.mem_append];exact Or.inl hx));have ap:Hid ((qs++[(⟨i,s,q,G a2 c.length c2,c⟩:TxnQ)]).map TxnQ.e=(ps.take (k+1)).map TxnQ.e):=Z.out _ rfl;have aq:Hid ((txnK.fp v' (qs++[(⟨i,s,q,G a2 c.length c2,c⟩:TxnQ)])).Nodup∧∀k∈txnK.fp v' (qs++[(⟨i,s,q,G a2 c.length c2,c⟩:TxnQ)]),w.heap.size≤k):=⟨ak,N⟩
   clear Z HN W y af ae T J O C U an ak N d hb z I V D
   go_wp2
   go_roundw
   case rel=>exact⟨k+1,_,by omega,by go_num,ap,ar,aq,av⟩
   case measure=>simp[intOf];omega
  ·have aw:k=ps.length:=by omega
   subst aw;have hE:=HE.out;rw[List.take_length]at hE;clear HE
   go_wp2
   go_ret;exact⟨_,qs,rfl,hE,hO,HN.out.1,HN.out.2,hb⟩
theorem q0v{F:List Nat}{w:World}{b o:Nat}(L:List Value)(ty:TypeId)(d:TypeDesc)(hr:w.rangeAt b o L)(hF:b∉F)(hu:Sl.underlying ty=some d)(hd:d.isRow=true)(hi:(Sl.info? ty).map (·.size)=some L.length):
  ∀u:LatO F w,(Instr.loadAt ty (.pointer (some ⟨b,o,none⟩))).run Sl u.val=.ok (.agg L.toArray) u.val:=fun u=>
 run_loadAt_mid u.val b o ty L d (fun j v hv=>z0k (hr j v hv) hF u) hu hd hi
theorem z1d(v:Value)(zs:List Int):(intK.fp v zs).Nodup:=by
 rw[z3D];exact z0x v
theorem z7r(rs:List RoundE)(w:World)(h:Wel rs)(h4:rs.length≤4):
  Calls Sl 87 #[.agg (rndC rs).toArray] w fun e w'=>∃v qs,e=.returned v∧qs.map RoundQ.e=rs∧roundK.Own w' v qs∧(roundK.fp v qs).Nodup∧(∀k∈roundK.fp v qs,w.heap.size≤k)∧Below w.heap.size w w':=by
 have B:=Vh w 103 (rndC rs).toArray;have ae:Below w.heap.size w (w.alloc (.cells (rndC rs).toArray 103)):=by go_grown
 have hc:=z9E rs;have aG:(rs.length:Int)≤4:=by omega
 obtain⟨i0,hi,aC,aD,aE⟩:=info_parts z3R;have ar:Hid (∀r,r<rs.length→∀j v,(z1g (rs.getD r z0K))[j]?=some v→(rndC rs)[1+r*6+j]?=some v):=fun r hr j v hv=>by
  have hj:=(List.getElem?_eq_some_iff.1 hv).1;rw[z00 (z2K h r hr)]at hj;rw[q0s h r hr j hj];exact hv
 generalize rndC rs=ds at*;go_enter func87,ntmps87
 go_wp2
 clear hc;generalize w.alloc (.cells ds.toArray 103)=W at*;obtain⟨al,am⟩:=Kind.own_nil (K:=roundK) W;have ag:Hid ((roundK.fp (G none 0 0) ([]:List RoundQ)).Nodup∧∀k∈roundK.fp (G none 0 0) ([]:List RoundQ),W.heap.size≤k):=by
  rw[am];exact⟨by simp,by simp⟩
 clear am;go_loopw[3,11] (fun v j wr=>∃ (k:Nat) (qs:List RoundQ),k≤rs.length∧j=f H k∧Hid (qs.map RoundQ.e=rs.take k)∧roundK.Own wr v qs∧Hid ((roundK.fp v qs).Nodup∧∀k∈roundK.fp v qs,W.heap.size≤k)∧Below W.heap.size W wr) (fun _ j _=>rs.length-(intOf j).toNat)
 case atStart=>exact⟨0,[],Vd _,rfl,(rfl:_=_),al,ag,Below.refl _ _⟩
 case round=>
  clear ag al;obtain⟨k,qs,hk,rfl,HE,hO,HN,hb⟩:=hrel;obtain⟨sa,sc,rfl⟩:=hO.shape;by_cases L:k<rs.length
  ·have aA:=z2K h k L;have ai:Hid (qs.length≤4):=by
    have:=congrArg List.length HE.out;rw[Vf,List.length_take]at this;show qs.length≤4;omega
   have ah:Hid (∀p':RoundQ,p'.e=rs.getD k z0K→(qs++[p']).map RoundQ.e=rs.take (k+1)):=fun p' ay=>by
    rw[Vk L,List.map_append,HE.out,List.map_singleton,ay];simp[Ve,L]
   have X:=rng (B.below hb) (z1g (rs.getD k z0K)) (o:=1+k*6) (fun j v hv=>by rw[List.getElem?_toArray];exact ar.out k L j v hv);clear HE;generalize rs.getD k z0K=q at*;obtain⟨qr,qp⟩:=q;obtain⟨l1,l2⟩:qr.length=3∧qp.length=3:=aA;obtain⟨x0,x1,x2,rfl⟩:=z77 l1;obtain⟨y0,y1,y2,rfl⟩:=z77 l2;clear l1 l2;have C:(Sl.info? 100).map (·.size)=some (z1g ⟨[x0,x1,x2],[y0,y1,y2]⟩).length:=z9I;have D:(Sl.info? 100).map (·.size)=some (z1g ⟨[x0,x1,x2],[y0,y1,y2]⟩).toArray.size:=C;have aa:=Vh wr 100 #[f H 0,f H 0,f H 0,f H 0,f H 0,f H 0];have E:=aa.row (z1g ⟨[x0,x1,x2],[y0,y1,y2]⟩).toArray;have I:Below W.heap.size W ((wr.alloc (.cells #[f H 0,f H 0,f H 0,f H 0,f H 0,f H 0] 100)).setRow wr.heap.size (z1g ⟨[x0,x1,x2],[y0,y1,y2]⟩).toArray):=z0m (hb.alloc hb.size _) hb.size _;have M:Below wr.heap.size wr ((wr.alloc (.cells #[f H 0,f H 0,f H 0,f H 0,f H 0,f H 0] 100)).setRow wr.heap.size (z1g ⟨[x0,x1,x2],[y0,y1,y2]⟩).toArray):=z0m ((Below.refl _ _).alloc (Vc _) _) (Vc _) _;have T:(#[f H 0,f H 0,f H 0,f H 0,f H 0,f H 0]:Array Value).size=(z1g ⟨[x0,x1,x2],[y0,y1,y2]⟩).toArray.size:=rfl;have U:(z1g ⟨[x0,x1,x2],[y0,y1,y2]⟩).toArray.all (·.oneCell')=true:=q2z _;have HF:Hid (∀x∈roundK.fp (G sa qs.length sc) qs,x<wr.heap.size):=hO.lt;replace hO:=hO.below M
   go_wp2_with (first|(refine z9J (by kernel_rfl) 100 _ rfl _ _ rfl (z1g ⟨[x0,x1,x2],[y0,y1,y2]⟩) _ X Tryz.underlying100 rfl C ?_)|(refine z0s (by kernel_rfl) 100 _ _ rfl _ (z1g ⟨[x0,x1,x2],[y0,y1,y2]⟩).toArray rfl rfl 100 _ aa D T U ?_))
   clear X C D T U aa M;generalize (wr.alloc (.cells #[f H 0,f H 0,f H 0,f H 0,f H 0,f H 0] 100)).setRow wr.heap.size (z1g ⟨[x0,x1,x2],[y0,y1,y2]⟩).toArray=W3 at*;have hF:wr.heap.size∉blk (G sa qs.length sc):=fun hx=>by
    have:=HF.out _ (by simp only[Kind.fp,List.mem_append];exact Or.inl hx);omega
   have p0:=q0v (F:=blk (G sa qs.length sc)) ([x0,x1,x2].map iv) 98 _ (rng E ([x0,x1,x2].map iv) (o:=0) (fun j v hv=>by match j,hv with|0,hv=>exact hv|1,hv=>exact hv|2,hv=>exact hv)) hF Tryz.underlying98 rfl z3W;have p1:=q0v (F:=blk (G sa qs.length sc)) ([y0,y1,y2].map iv) 98 _ (rng E ([y0,y1,y2].map iv) (o:=3) (fun j v hv=>by match j,hv with|0,hv=>exact hv|1,hv=>exact hv|2,hv=>exact hv)) hF Tryz.underlying98 rfl z3W;have ax:Nonempty (LatO (blk (G sa qs.length sc)) W3):=⟨⟨W3,Out.refl _ _⟩⟩
   have hW:Below W3.heap.size W3 W3.drew:=(Below.refl _ _).drew;have d:∀w',Below W3.heap.size W3 w'→∃u:LatO (blk (G sa qs.length sc)) W3,w'=u.val:=fun w' az=>⟨⟨w',Out.of_below az⟩,rfl⟩
   simp only[Vi];refine z0b (S:=fun w'=>∃u:LatO (blk (G sa qs.length sc)) W3,w'=u.val) (by kernel_rfl) ?_;refine sgr [(0,2),(4,1)] 8 (by kernel_rfl) (d _ hW) ?_;simp only[pkE];repeat go_big_quiet_step (fail)
   refine wpQuiet_nil ?_;refine qta 2 (some 17) (.agg ([x0,x1,x2].map iv).toArray) 7 (by kernel_rfl) (fun u hu=>?_) (d _ hW) ?_
   ·obtain⟨u,rfl⟩:=hu;show some (((Instr.loadAt 98 (.pointer (some ⟨wr.heap.size,0,none⟩)))>>=fun x=>pure (Next.value x):Sem Next).run Sl u.val)=_;rw[Sem.run_bind,p0 u];rfl
   simp only[Vi,pjE];refine qta 5 (some 20) (.agg ([y0,y1,y2].map iv).toArray) 6 (by kernel_rfl) (fun u hu=>?_) (d _ hW) ?_
   ·obtain⟨u,rfl⟩:=hu;show some (((Instr.loadAt 98 (.pointer (some ⟨wr.heap.size,3,none⟩)))>>=fun x=>pure (Next.value x):Sem Next).run Sl u.val)=_;rw[Sem.run_bind,p1 u];rfl
   simp only[Vi,pjE];refine cla 3 (some 18) 88 #[.agg ([x0,x1,x2].map iv).toArray] 5 (by kernel_rfl) ?_;refine(z2m [x0,x1,x2] _ rfl).mono ?_;rintro e w8 ⟨a1,c1,rfl,o1,g1,_,ak⟩;have L1:∀x∈intK.fp (G a1 3 c1) [x0,x1,x2],W3.heap.size≤x:=fun x hx=>by have:=g1 x hx;have:=hW.size;omega
   have M1:=o1.lt;replace hW:=hW.trans (ak.mono hW.size);clear ak g1;refine⟨_,rfl,d _ hW,?_⟩;simp only[Vi,pjE];refine cla 6 (some 21) 88 #[.agg ([y0,y1,y2].map iv).toArray] 4 (by kernel_rfl) ?_;refine(z2m [y0,y1,y2] _ rfl).mono ?_;rintro e w9 ⟨a2,c2,rfl,o2,g2,_,c⟩;have L2:∀x∈intK.fp (G a2 3 c2) [y0,y1,y2],W3.heap.size≤x:=fun x hx=>by have:=g2 x hx;have:=hW.size;omega
   have N:∀x∈intK.fp (G a1 3 c1) [x0,x1,x2],∀y∈intK.fp (G a2 3 c2) [y0,y1,y2],x≠y:=fun x hx y hy e=>by have:=M1 x hx;have:=g2 y hy;omega
   replace hW:=hW.trans (c.mono hW.size);replace o1:=o1.below c;clear c g2 M1;refine⟨_,rfl,d _ hW,?_⟩;simp only[Vi,pjE];refine qta 7 (some 22) (.agg #[G a1 3 c1,G a2 3 c2]) 3 (by kernel_rfl) (fun u _=>by kernel_rfl) (d _ hW) ?_;simp only[Vi,pjE];refine ona 8 2 rfl (by kernel_rfl) ?_;have J:Below w9.heap.size w9 (w9.alloc (.cells #[G a1 3 c1,G a2 3 c2] 138)):=by go_grown
   replace hW:=hW.trans (J.mono hW.size);replace o1:=o1.below J;replace o2:=o2.below J;have Y:∀j u,[Value.slice a1 3 c1,G a2 3 c2][j]?=some u→(w9.alloc (.cells #[G a1 3 c1,G a2 3 c2] 138)).cell? ((⟨w9.heap.size,0,none⟩:Addr).add j)=some u:=by
    intro j u hj;match j,hj with|0,hj=>simp at hj;subst hj;simp[Addr.add]|1,hj=>simp at hj;subst hj;simp[Addr.add]
   go_wp2
   refine ThenGo.to ⟨d _ hW,?_⟩;generalize w9.alloc (.cells #[G a1 3 c1,G a2 3 c2] 138)=Z at*;clear J;have ab:=hO.below hW;have c:=I.trans (hW.mono I.size);have A:=ab.1;refine ona 9 1 rfl (by kernel_rfl) ?_;refine wpList_append_own_at _ rfl _ _ 61 rfl 0 138 i0 (.agg #[G none 0 0,G none 0 0]) 2 48 Tryz.underlying61 hi aC aD aE rfl (by decide) _ qs.length (roundK.row qs) rfl A ⟨w9.heap.size,0,none⟩ 1 1 [G a1 3 c1,G a2 3 c2] rfl rfl Y ?c2 ?c3 ?c4 ?c5 ?_
   case c2=>intro u hu;simp at hu;rcases hu with rfl|rfl<;>rfl
   case c3=>have:=ai.out;unfold maxLen;omega
   case c4=>have:=ai.out;omega
   case c5=>omega
   intro v' w5 V z ao aj;clear ao A Y;have aF:wr.heap.size≤W3.heap.size:=by have:=E.lt;omega
   obtain ⟨au,an,O,af⟩:=ab.snoc (p:=⟨G a1 3 c1,[x0,x1,x2],G a2 3 c2,[y0,y1,y2]⟩) HN.out.1 HN.out.2 ⟨o1,o2⟩ (List.nodup_append.2 ⟨z1d _ _,z1d _ _,N⟩) (fun x hx aB => by
    have:=HF.out x aB;rcases List.mem_append.1 hx with hx|hx
    ·have:=L1 x hx;omega
    ·have:=L2 x hx;omega) (fun x hx=>by
    have:=I.size;rcases List.mem_append.1 hx with hx|hx
    ·have:=L1 x hx;omega
    ·have:=L2 x hx;omega) c.size V z aj
   have av:Below W.heap.size W w5:=Out.keep c af c.size (fun x hx=>HN.out.2 x (by simp only[Kind.fp,List.mem_append];exact Or.inl hx));have ad:Out (blk (G sa qs.length sc)) W3 w5:=(Out.of_below hW).trans af;have ap:Hid ((qs++[(⟨G a1 3 c1,[x0,x1,x2],G a2 3 c2,[y0,y1,y2]⟩:RoundQ)]).map RoundQ.e=rs.take (k+1)):=ah.out _ rfl;have aq:Hid ((roundK.fp v' (qs++[(⟨G a1 3 c1,[x0,x1,x2],G a2 3 c2,[y0,y1,y2]⟩:RoundQ)])).Nodup∧∀k∈roundK.fp v' (qs++[(⟨G a1 3 c1,[x0,x1,x2],G a2 3 c2,[y0,y1,y2]⟩:RoundQ)]),W.heap.size≤k):=⟨an,O⟩
   clear an O af ah HN HF o1 o2 L1 L2 N V z aj ab hO c I
   go_wp2
   refine ThenGo.to ⟨⟨⟨_,ad⟩,rfl⟩,?_⟩;simp only[Vi,pgE,pjE];refine sgr [(10,1)] 0 (by kernel_rfl) ⟨⟨_,ad⟩,rfl⟩ ?_;simp only[pkE];repeat go_big_quiet_step (fail)
   refine wpQuiet_nil ?_;refine z0g (by kernel_rfl) ?_;clear p0 p1 ax hW ad d E hF
   go_wp2
   go_roundw
   case rel=>exact⟨k+1,_,by omega,by go_num,ap,au,aq,av⟩
   case measure=>simp[intOf];omega
  ·have aw:k=rs.length:=by omega
   subst aw;have hE:=HE.out;rw[List.take_length]at hE;clear HE;have aH:=ae.size
   go_wp2
   go_ret;exact⟨_,qs,rfl,hE,hO,HN.out.1,fun x hx=>by have:=HN.out.2 x hx;omega,ae.trans (hb.mono ae.size)⟩
theorem z0v(w:World)(g:Nat)(cs:Array Value):Out [g] w (w.setRow g cs):=
 ⟨rfl,rfl,rfl,by rw[setRow_size];exact Vc _,fun k _ hn=>setRow_other w g k cs (by simpa using hn)⟩
theorem z7s:(Sl.info? 64).map (·.size)=some 4:=by kernel_rfl
theorem z8C(has:Bool)(vb:Value)(bt:List TxnQ)(rs:List RoundE)(dec:List Int)(w:World)(hT:txnK.At w vb bt)(aa:∀p∈bt,0<p.acts.length)(hl:bt.length+nmL TxnQ.n bt≤1048576)(c:Wel rs)(h4:rs.length≤4)(h3:dec.length=3):
  Calls Sl 46 #[.agg (brdC has vb rs dec).toArray] w fun e w'=>∃q:InstQ,e=.returned (.agg #[.bool q.has,q.vb,q.vr,q.vd])∧q.e=⟨has,bt.map TxnQ.e,rs,dec⟩∧instK.own w' q∧(instK.foot q).Nodup∧(∀k∈instK.foot q,w.heap.size≤k)∧Below w.heap.size w w':=by
 have B:=Vh w 105 (brdC has vb rs dec).toArray;have J:=fun w (hT:txnK.At w vb bt)=>z1s vb bt w hT aa hl
 have L:=fun w=>z7r rs w c h4
 have M:=fun w=>z2m dec w h3
 have T:(Sl.info? 103).map (·.size)=some (rndC rs).length:=by rw[z0u c h4];exact z2L
 have O:(Sl.info? 98).map (·.size)=some (dec.map iv).length:=by rw[Vf,h3];exact z3W
 have d:Hid ((brdC has vb rs dec)[25]?=some (.bool has)∧(brdC has vb rs dec)[26]?=some vb∧(∀j v,(rndC rs)[j]?=some v→(brdC has vb rs dec)[0+j]?=some v)∧∀j v,(dec.map iv)[j]?=some v→(brdC has vb rs dec)[27+j]?=some v):=by
  refine⟨z7o c h4,q2u c h4,fun j v hv=>?_,fun j v hv=>?_⟩
  ·have hj:=(List.getElem?_eq_some_iff.1 hv).1;rw[z0u c h4]at hj;rw[Nat.zero_add,z5I c h4 j hj];exact hv
  ·obtain⟨hj,rfl⟩:=row_get h3 hv;exact z9H c h4 h3 j hj
 generalize brdC has vb rs dec=ds at*;have C:Below w.heap.size w ((w.alloc (.cells ds.toArray 105)).alloc (.cells #[.bool false,G none 0 0,G none 0 0,G none 0 0] 64)):=by go_grown
 have I:Below (w.alloc (.cells ds.toArray 105)).heap.size (w.alloc (.cells ds.toArray 105)) ((w.alloc (.cells ds.toArray 105)).alloc (.cells #[.bool false,G none 0 0,G none 0 0,G none 0 0] 64)):=by go_grown
 have R:=Vh (w.alloc (.cells ds.toArray 105)) 64 #[.bool false,G none 0 0,G none 0 0,G none 0 0];rw[World.size_alloc]at R;replace B:=B.below I;clear I;go_enter func46,ntmps46
 go_wp2_with fail
 have ah:w.heap.size+2≤((w.alloc (.cells ds.toArray 105)).alloc (.cells #[.bool false,G none 0 0,G none 0 0,G none 0 0] 64)).heap.size:=by simp
 generalize ((w.alloc (.cells ds.toArray 105)).alloc (.cells #[.bool false,G none 0 0,G none 0 0,G none 0 0] 64))=W at*;have hF:w.heap.size∉[w.heap.size+1]:=by simp
 have p0:=z0k (F:=[w.heap.size+1]) (B.cell 25 (.bool has) (by rw[List.getElem?_toArray];exact d.out.1)) hF;have p1:=z0k (F:=[w.heap.size+1]) (B.cell 26 vb (by rw[List.getElem?_toArray];exact d.out.2.1)) hF;have p2:=q0v (F:=[w.heap.size+1]) (rndC rs) 103 _ (rng B (rndC rs) (o:=0) (fun j v hv=>by rw[List.getElem?_toArray];exact d.out.2.2.1 j v hv)) hF Tryz.underlying103 rfl T;have p3:=q0v (F:=[w.heap.size+1]) (dec.map iv) 98 _ (rng B (dec.map iv) (o:=27) (fun j v hv=>by rw[List.getElem?_toArray];exact d.out.2.2.2 j v hv)) hF Tryz.underlying98 rfl O;obtain⟨ba,bk,rfl⟩:=hT.shape;clear T O d;generalize rndC rs=dr at*;have ab:Nonempty (LatO [w.heap.size+1] W):=⟨⟨W,Out.refl _ _⟩⟩
 have hW:Below W.heap.size W W.drew:=(Below.refl _ _).drew;have z:∀w',Below W.heap.size W w'→∃u:LatO [w.heap.size+1] W,w'=u.val:=fun w' ad=>⟨⟨w',Out.of_below ad⟩,rfl⟩
 refine z0b (S:=fun w'=>∃u:LatO [w.heap.size+1] W,w'=u.val) (by kernel_rfl) ?_;refine sgr [(0,4),(5,1),(8,1)] 7 (by kernel_rfl) (z _ hW) ?_;simp only[pkE];repeat go_big_quiet_step (fail)
 refine wpQuiet_nil ?_;refine qta 6 (some 9) (.agg dr.toArray) 6 (by kernel_rfl) (fun u hu=>?_) (z _ hW) ?_
 ·obtain⟨u,rfl⟩:=hu;show some (((Instr.loadAt 103 (.pointer (some ⟨w.heap.size,0,none⟩)))>>=fun x=>pure (Next.value x):Sem Next).run Sl u.val)=_;rw[Sem.run_bind,p2 u];rfl
 simp only[Vi,pjE];refine qta 9 (some 12) (.agg (dec.map iv).toArray) 5 (by kernel_rfl) (fun u hu=>?_) (z _ hW) ?_
 ·obtain⟨u,rfl⟩:=hu;show some (((Instr.loadAt 98 (.pointer (some ⟨w.heap.size,27,none⟩)))>>=fun x=>pure (Next.value x):Sem Next).run Sl u.val)=_;rw[Sem.run_bind,p3 u];rfl
 simp only[Vi,pjE];refine cla 4 (some 7) 86 #[G ba bt.length bk] 4 (by kernel_rfl) ?_;refine(J _ (hT.below (C.trans (hW.mono C.size)))).mono ?_;rintro e w1 ⟨v1,q1,rfl,e1,o1,n1,g1,hb⟩;have L1:∀x∈txnK.fp v1 q1,W.heap.size≤x:=fun x hx=>by have:=g1 x hx;have:=hW.size;omega
 have M1:=o1.lt;replace hW:=hW.trans (hb.mono hW.size);clear hb g1;refine⟨_,rfl,z _ hW,?_⟩;simp only[Vi,pjE];refine cla 7 (some 10) 87 #[.agg dr.toArray] 3 (by kernel_rfl) ?_;refine(L _).mono ?_;rintro e w2 ⟨v2,q2,rfl,e2,o2,n2,g2,hb⟩;have L2:∀x∈roundK.fp v2 q2,W.heap.size≤x:=fun x hx=>by have:=g2 x hx;have:=hW.size;omega
 have U:∀x∈txnK.fp v1 q1,∀y∈roundK.fp v2 q2,x≠y:=fun x hx y hy e=>by have:=M1 x hx;have:=g2 y hy;omega
 have M2:=o2.lt;have N:=hb.size;replace o1:=o1.below hb;replace hW:=hW.trans (hb.mono hW.size);clear hb g2;refine⟨_,rfl,z _ hW,?_⟩;simp only[Vi,pjE];refine cla 10 (some 13) 88 #[.agg (dec.map iv).toArray] 2 (by kernel_rfl) ?_;refine(M _).mono ?_;rintro e w3 ⟨a3,c3,rfl,o3,g3,_,hb⟩;have L3:∀x∈intK.fp (G a3 3 c3) dec,W.heap.size≤x:=fun x hx=>by have:=g3 x hx;have:=hW.size;omega
 have V:∀x∈txnK.fp v1 q1,∀y∈intK.fp (G a3 3 c3) dec,x≠y:=fun x hx y hy e=>by have:=M1 x hx;have:=g3 y hy;omega
 have X:∀x∈roundK.fp v2 q2,∀y∈intK.fp (G a3 3 c3) dec,x≠y:=fun x hx y hy e=>by have:=M2 x hx;have:=g3 y hy;omega
 replace o1:=o1.below hb;replace o2:=o2.below hb;replace hW:=hW.trans (hb.mono hW.size);clear hb g3 M1 M2 N;obtain⟨s1,t1,rfl⟩:=o1.shape;obtain⟨s2,t2,rfl⟩:=o2.shape;refine⟨_,rfl,z _ hW,?_⟩;simp only[Vi,pjE];refine qta 11 (some 14) (.agg #[.bool has,G s1 q1.length t1,G s2 q2.length t2,G a3 3 c3]) 1 (by kernel_rfl) (fun u _=>by kernel_rfl) (z _ hW) ?_;simp only[Vi,pjE];have R3:=R.below hW;refine ona 12 0 rfl (by kernel_rfl) ?_;have Z:=R3.row #[.bool has,G s1 q1.length t1,G s2 q2.length t2,G a3 3 c3];have A:=z0v w3 (w.heap.size+1) #[.bool has,G s1 q1.length t1,G s2 q2.length t2,G a3 3 c3];have E:Out [w.heap.size+1] W (w3.setRow (w.heap.size+1) #[.bool has,G s1 q1.length t1,G s2 q2.length t2,G a3 3 c3]):=(Out.of_below hW).trans A;refine z0s (by kernel_rfl) 64 _ _ rfl _ #[.bool has,G s1 q1.length t1,G s2 q2.length t2,G a3 3 c3] rfl rfl 64 _ R3 z7s rfl (by simp[Value.oneCell']) ?_
 go_wp2
 refine ThenGo.to ⟨⟨⟨_,E⟩,rfl⟩,?_⟩;refine z0g (by kernel_rfl) ?_;have D:∀x,W.heap.size≤x→x∉[w.heap.size+1]:=fun x hx=>by simp only[Vg];omega
 have ae:=o1.out A (fun x hx=>D x (L1 x hx));have af:=o2.out A (fun x hx=>D x (L2 x hx));have ag:=o3.out A (fun x hx=>D x (L3 x hx));have Y:Below w.heap.size w (w3.setRow (w.heap.size+1) #[.bool has,G s1 q1.length t1,G s2 q2.length t2,G a3 3 c3]):=z0m (C.trans (hW.mono C.size)) (by omega) _;clear p0 p1 p2 p3 ab z J L M A E o1 o2 o3 R3;generalize w3.setRow (w.heap.size+1) #[.bool has,G s1 q1.length t1,G s2 q2.length t2,G a3 3 c3]=w4 at*;obtain⟨p0,p1,p2,p3⟩:=Z.cel4
 go_wp2
 refine bodyPost_ret (v:=.agg #[.bool has,G s1 q1.length t1,G s2 q2.length t2,G a3 3 c3]) (by simp[results,results46,go_sem,p0,p1,p2,p3]) rfl ?_;refine⟨⟨has,G s1 q1.length t1,q1,G s2 q2.length t2,q2,G a3 3 c3,dec⟩,rfl,?_,⟨ae,af,ag⟩,?_,?_,Y⟩
 ·simp only[Va,e1,e2]
 ·exact List.nodup_append.2 ⟨n1,List.nodup_append.2 ⟨n2,z1d _ _,X⟩,fun x hx y hy=>by
   rcases List.mem_append.1 hy with hy|hy
   ·exact U x hx y hy
   ·exact V x hx y hy⟩
 ·intro x hx;rcases List.mem_append.1 hx with hx|hx
  ·have:=L1 x hx;omega
  ·rcases List.mem_append.1 hx with hx|hx
   ·have:=L2 x hx;omega
   ·have:=L3 x hx;omega
section
variable {ops:Array Oper} {rest:List Oper} {op:Oper} {a:Act} {w:World} {Q:Exit→Act→World→Prop}
theorem q4M(hw:Region.wanted op (yielded ops a.tmps)=true)(ty:TypeId)(x y:Operand)(ho:op.op=.store ty x y)
  (g o:Nat) (cells:Array Value) (hx:a.eval x=.pointer (some ⟨g,o,none⟩)) (hy:a.eval y=.agg cells)
  (t:TypeId) (old:Array Value) (hg:Blk w g t old) (hi:(Sl.info? ty).map (·.size)=some cells.size)
  (hold:o+cells.size≤old.size) (h1:cells.all (·.oneCell')=true)
  (h:wpList Sl ops Q rest (a.put op.dst undef) (w.setCells g o cells.toList)):wpList Sl ops Q (op::rest) a w:=by
 simp only[wpList];rw[if_pos hw];refine Or.inl (wp_store_mid ty x y ho g o cells hx hy ?_ hi h1 h);intro j hj;refine⟨?_,hg.frozen _⟩;rw[hg.cell (o+j) (old[o+j]'(by omega)) (by rw[Array.getElem?_eq_getElem])];rfl
end
theorem Blk.mid5{w:World}{b:Nat}{t:TypeId}{c0 c1 d0 d1 d2 d3 d4:Value}(h:Blk w b t #[c0,c1,d0,d1,d2,d3,d4])(x0 x1 x2 x3 x4:Value):Blk (w.setCells b 2 [x0,x1,x2,x3,x4]) b t #[c0,c1,x0,x1,x2,x3,x4]:=by
 have:=((((h.set 2 x0).set 3 x1).set 4 x2).set 5 x3).set 6 x4;simpa only[World.setCells,pjE]using this
theorem q0w(w:World)(b:Nat)(x0 x1 x2 x3 x4:Value):Out [b] w (w.setCells b 2 [x0,x1,x2,x3,x4]):=
 (((((Out.refl [b] w).set (b:=b) (j:=2) (u:=x0) (by simp)).set (b:=b) (j:=3) (u:=x1) (by simp)).set (b:=b) (j:=4) (u:=x2) (by simp)).set (b:=b) (j:=5) (u:=x3) (by simp)).set (b:=b) (j:=6) (u:=x4) (by simp)
theorem z5K(w:World)(g:Nat)(cs:Array Value):Out [g] w (w.setRow g cs):=
 ⟨rfl,rfl,rfl,by rw[setRow_size];exact Vc _,fun k _ hn=>setRow_other w g k cs (by simpa using hn)⟩
theorem q35(kn sf:Int)(p:RepQ)(c:Int)(w:World)(h:repK.rd w p)(hn:RepQ.wf p)(h0:0≤c)(h1:c≤1048576):
  Calls Sl 31 #[.agg #[f H kn,f H sf,p.vd,p.vb,p.vt,p.vu,p.vn],f H c] w fun e w'=>∃r:Int,e=.returned (f H r)∧(¬r<0→(RepQ.n p:Int)+r=c)∧Below w.heap.size w w':=by
 have hm:=fun w h=>z9y p c w h hn h0 h1
 have hr:=fun(w':World) hb=>repK.rd_below (w':=w') h hb
 generalize (RepQ.n p:Int)=NP at*;clear hn;obtain⟨vd,done,vb,base,vt,x,vu,d,vn,y⟩:=p;obtain⟨a0,k0,rfl⟩:∃a c,vd=G a done.length c:=h.1.shape;obtain⟨a1,k1,rfl⟩:∃a c,vb=G a base.length c:=h.2.1.shape;obtain⟨a2,k2,rfl⟩:∃a c,vt=G a x.length c:=h.2.2.1.shape;obtain⟨a3,k3,rfl⟩:∃a c,vu=G a d.length c:=h.2.2.2.1.shape;obtain⟨a4,k4,rfl⟩:∃a c,vn=G a y.length c:=h.2.2.2.2.shape;dsimp only at hm;have hB:Below w.heap.size w (w.alloc (.cells #[f H kn,f H sf,G a0 done.length k0,G a1 base.length k1,G a2 x.length k2,G a3 d.length k3,G a4 y.length k4] 85)):=by go_grown
 have B:=Vh w 85 #[f H kn,f H sf,G a0 done.length k0,G a1 base.length k1,G a2 x.length k2,G a3 d.length k3,G a4 y.length k4];obtain⟨q0,q1,q2,q3,q4,q5,q6⟩:=B.cel7;go_enter func31,ntmps31
 go_wp2_with fail
 clear q0 q1 q2 q3 q4 q5 q6 B;have z:=hr _ hB;generalize w.alloc (.cells #[f H kn,f H sf,G a0 done.length k0,G a1 base.length k1,G a2 x.length k2,G a3 d.length k3,G a4 y.length k4] 85)=W at*;refine(hm W z).mono ?_;rintro e w1 ⟨r,rfl,hq,hb⟩;replace hB:=hB.trans (hb.mono hB.size);by_cases A:r<0
 ·go_wp2
  go_ret;exact⟨_,rfl,fun h=>absurd h (by decide),hB⟩
 ·go_wp2
  go_ret;exact⟨_,rfl,hq,hB⟩
theorem q36(kn sf:Int)(p:RepQ)(w:World)(h:repK.rd w p)(hl:RepQ.n p≤1048576):
  Calls Sl 40 #[.agg #[f H kn,f H sf,p.vd,p.vb,p.vt,p.vu,p.vn]] w fun e w'=>∃p':RepQ,e=.returned (.agg #[f H kn,f H sf,p'.vd,p'.vb,p'.vt,p'.vu,p'.vn])∧p'.e=p.e∧repK.own w' p'∧(repK.foot p').Nodup∧(∀k∈repK.foot p',w.heap.size≤k)∧Below w.heap.size w w':=by
 have hm:=fun w h=>z9A p w h hl
 have hr:=fun(w':World) hb=>repK.rd_below (w':=w') h hb
 generalize p.e=PE at*;obtain⟨vd,done,vb,base,vt,x,vu,d,vn,y⟩:=p;obtain⟨a0,k0,rfl⟩:∃a c,vd=G a done.length c:=h.1.shape;obtain⟨a1,k1,rfl⟩:∃a c,vb=G a base.length c:=h.2.1.shape;obtain⟨a2,k2,rfl⟩:∃a c,vt=G a x.length c:=h.2.2.1.shape;obtain⟨a3,k3,rfl⟩:∃a c,vu=G a d.length c:=h.2.2.2.1.shape;obtain⟨a4,k4,rfl⟩:∃a c,vn=G a y.length c:=h.2.2.2.2.shape;dsimp only at hm;clear hl;have hB:Below w.heap.size w (((w.alloc (.cells #[f H kn,f H sf,G a0 done.length k0,G a1 base.length k1,G a2 x.length k2,G a3 d.length k3,G a4 y.length k4] 85)).alloc (.cells #[f H 0,f H 0,G none 0 0,G none 0 0,G none 0 0,G none 0 0,G none 0 0] 57)).alloc (.cells #[f H kn,f H sf,G none 0 0,G none 0 0,G none 0 0,G none 0 0,G none 0 0] 57)):=by go_grown
 have R:=(Vh (w.alloc (.cells #[f H kn,f H sf,G a0 done.length k0,G a1 base.length k1,G a2 x.length k2,G a3 d.length k3,G a4 y.length k4] 85)) 57 #[f H 0,f H 0,G none 0 0,G none 0 0,G none 0 0,G none 0 0,G none 0 0]).below (w':=(((w.alloc (.cells #[f H kn,f H sf,G a0 done.length k0,G a1 base.length k1,G a2 x.length k2,G a3 d.length k3,G a4 y.length k4] 85)).alloc (.cells #[f H 0,f H 0,G none 0 0,G none 0 0,G none 0 0,G none 0 0,G none 0 0] 57)).alloc (.cells #[f H kn,f H sf,G none 0 0,G none 0 0,G none 0 0,G none 0 0,G none 0 0] 57))) (by go_grown);have O:=Vh ((w.alloc (.cells #[f H kn,f H sf,G a0 done.length k0,G a1 base.length k1,G a2 x.length k2,G a3 d.length k3,G a4 y.length k4] 85)).alloc (.cells #[f H 0,f H 0,G none 0 0,G none 0 0,G none 0 0,G none 0 0,G none 0 0] 57)) 57 #[f H kn,f H sf,G none 0 0,G none 0 0,G none 0 0,G none 0 0,G none 0 0];have hS:(((w.alloc (.cells #[f H kn,f H sf,G a0 done.length k0,G a1 base.length k1,G a2 x.length k2,G a3 d.length k3,G a4 y.length k4] 85)).alloc (.cells #[f H 0,f H 0,G none 0 0,G none 0 0,G none 0 0,G none 0 0,G none 0 0] 57)).alloc (.cells #[f H kn,f H sf,G none 0 0,G none 0 0,G none 0 0,G none 0 0,G none 0 0] 57)).heap.size=w.heap.size+3:=by simp only[World.size_alloc]
 simp only[World.size_alloc]at R O;have B:=(Vh w 85 #[f H kn,f H sf,G a0 done.length k0,G a1 base.length k1,G a2 x.length k2,G a3 d.length k3,G a4 y.length k4]).below (w':=(((w.alloc (.cells #[f H kn,f H sf,G a0 done.length k0,G a1 base.length k1,G a2 x.length k2,G a3 d.length k3,G a4 y.length k4] 85)).alloc (.cells #[f H 0,f H 0,G none 0 0,G none 0 0,G none 0 0,G none 0 0,G none 0 0] 57)).alloc (.cells #[f H 0,f H 0,G none 0 0,G none 0 0,G none 0 0,G none 0 0,G none 0 0] 57))) (by go_grown);obtain⟨q0,q1,q2,q3,q4,q5,q6⟩:=B.cel7;go_enter func40,ntmps40
 go_wp2_with fail
 clear q0 q1 q2 q3 q4 q5 q6 B;have A:=hr _ hB;generalize (((w.alloc (.cells #[f H kn,f H sf,G a0 done.length k0,G a1 base.length k1,G a2 x.length k2,G a3 d.length k3,G a4 y.length k4] 85)).alloc (.cells #[f H 0,f H 0,G none 0 0,G none 0 0,G none 0 0,G none 0 0,G none 0 0] 57)).alloc (.cells #[f H kn,f H sf,G none 0 0,G none 0 0,G none 0 0,G none 0 0,G none 0 0] 57))=W at*;refine(hm W A).mono ?_;rintro e w1 ⟨q,rfl,E0,O0,N0,G0,hb⟩;replace hB:=hB.trans (hb.mono hB.size);replace R:=R.below hb;replace O:=O.below hb;have U:=hb.size;clear hb hm hr A;obtain⟨L,qd,J,qb,N,qt,T,qu,M,qn⟩:=q;obtain⟨x0,z0,rfl⟩:∃a c,L=G a qd.length c:=O0.1.shape;obtain⟨x1,z1,rfl⟩:∃a c,J=G a qb.length c:=O0.2.1.shape;obtain⟨x2,z2,rfl⟩:∃a c,N=G a qt.length c:=O0.2.2.1.shape;obtain⟨x3,z3,rfl⟩:∃a c,T=G a qu.length c:=O0.2.2.2.1.shape;obtain⟨x4,z4,rfl⟩:∃a c,M=G a qn.length c:=O0.2.2.2.2.shape;have U1:=q0w w1 (w.heap.size+1+1) (G x0 qd.length z0) (G x1 qb.length z1) (G x2 qt.length z2) (G x3 qu.length z3) (G x4 qn.length z4);have O2:=O.mid5 (G x0 qd.length z0) (G x1 qb.length z1) (G x2 qt.length z2) (G x3 qu.length z3) (G x4 qn.length z4);have R2:Blk _ _ _ _:=(U1.block _ R.lt (by simp)).trans R;have OW:=repK.own_out O0 U1 (fun k hk=>by have:=G0 k hk;simp;omega);have z:=Out.keep hB U1 hB.size (fun k hk=>by simp at hk;omega);have I:(Sl.info? 55).map (·.size)=some (#[G x0 qd.length z0,G x1 qb.length z1,G x2 qt.length z2,G x3 qu.length z3,G x4 qn.length z4]:Array Value).size:=by kernel_rfl
 have E:(Sl.info? 57).map (·.size)=some (#[f H kn,f H sf,G x0 qd.length z0,G x1 qb.length z1,G x2 qt.length z2,G x3 qu.length z3,G x4 qn.length z4]:Array Value).size:=by kernel_rfl
 generalize hV:w1.setCells (w.heap.size+1+1) 2 [G x0 qd.length z0,G x1 qb.length z1,G x2 qt.length z2,G x3 qu.length z3,G x4 qn.length z4]=V at*;have R3:=R2.row #[f H kn,f H sf,G x0 qd.length z0,G x1 qb.length z1,G x2 qt.length z2,G x3 qu.length z3,G x4 qn.length z4];have U3:=z5K V (w.heap.size+1) #[f H kn,f H sf,G x0 qd.length z0,G x1 qb.length z1,G x2 qt.length z2,G x3 qu.length z3,G x4 qn.length z4];have C:=repK.own_out OW U3 (fun k hk=>by have:=G0 k hk;simp;omega);have D:=Out.keep z U3 z.size (fun k hk=>by simp at hk;omega);obtain⟨q0,q1,q2,q3,q4,q5,q6⟩:=O2.cel7
 go_wp2_with (first|(refine q4M (by kernel_rfl) 55 _ _ rfl _ 2 #[G x0 qd.length z0,G x1 qb.length z1,G x2 qt.length z2,G x3 qu.length z3,G x4 qn.length z4] rfl rfl 57 _ O I (by simp) (by simp[Value.oneCell']) ?_;(try dsimp only);rw[hV])|(refine z0s (by kernel_rfl) 57 _ _ rfl _ #[f H kn,f H sf,G x0 qd.length z0,G x1 qb.length z1,G x2 qt.length z2,G x3 qu.length z3,G x4 qn.length z4] rfl rfl 57 _ R2 E rfl (by simp[Value.oneCell']) ?_))
 obtain⟨r0,r1,r2,r3,r4,r5,r6⟩:=R3.cel7;exact bodyPost_ret (v:=.agg #[f H kn,f H sf,G x0 qd.length z0,G x1 qb.length z1,G x2 qt.length z2,G x3 qu.length z3,G x4 qn.length z4]) (by simp[results,results40,go_sem,r0,r1,r2,r3,r4,r5,r6]) rfl ⟨_,rfl,E0,C,N0,fun k hk=>by have:=G0 k hk;omega,D⟩
theorem q37(kn sf:Int)(p p':RepQ)(w:World)(h:repK.rd w p)(h':repK.rd w p')(he:p.e=p'.e)(hl:RepQ.n p≤1048576):
  Calls Sl 48 #[.agg #[f H kn,f H sf,p.vd,p.vb,p.vt,p.vu,p.vn],.agg #[f H kn,f H sf,p'.vd,p'.vb,p'.vt,p'.vu,p'.vn]] w fun e w'=>e=.returned (.bool true)∧Below w.heap.size w w':=by
 have hm:=fun w h h'=>z9z p p' w h h' he hl
 have hr:=fun(w':World) hb=>repK.rd_below (w':=w') h hb
 have Z:=fun(w':World) hb=>repK.rd_below (w':=w') h' hb
 obtain⟨vd,done,vb,base,vt,C,vu,x,vn,E⟩:=p;obtain⟨a0,k0,rfl⟩:∃a c,vd=G a done.length c:=h.1.shape;obtain⟨a1,k1,rfl⟩:∃a c,vb=G a base.length c:=h.2.1.shape;obtain⟨a2,k2,rfl⟩:∃a c,vt=G a C.length c:=h.2.2.1.shape;obtain⟨a3,k3,rfl⟩:∃a c,vu=G a x.length c:=h.2.2.2.1.shape;obtain⟨a4,k4,rfl⟩:∃a c,vn=G a E.length c:=h.2.2.2.2.shape;obtain⟨ad,z,ab,y,af,A,ag,d,ae,D⟩:=p';obtain⟨I,O,rfl⟩:∃a c,ad=G a z.length c:=h'.1.shape;obtain⟨J,T,rfl⟩:∃a c,ab=G a y.length c:=h'.2.1.shape;obtain⟨L,U,rfl⟩:∃a c,af=G a A.length c:=h'.2.2.1.shape;obtain⟨M,V,rfl⟩:∃a c,ag=G a d.length c:=h'.2.2.2.1.shape;obtain⟨N,X,rfl⟩:∃a c,ae=G a D.length c:=h'.2.2.2.2.shape;dsimp only at hm;clear he hl;have hB:Below w.heap.size w ((w.alloc (.cells #[f H kn,f H sf,G a0 done.length k0,G a1 base.length k1,G a2 C.length k2,G a3 x.length k3,G a4 E.length k4] 57)).alloc (.cells #[f H kn,f H sf,G I z.length O,G J y.length T,G L A.length U,G M d.length V,G N D.length X] 57)):=by go_grown
 have B:=(Vh w 57 #[f H kn,f H sf,G a0 done.length k0,G a1 base.length k1,G a2 C.length k2,G a3 x.length k3,G a4 E.length k4]).below (w':=(w.alloc (.cells #[f H kn,f H sf,G a0 done.length k0,G a1 base.length k1,G a2 C.length k2,G a3 x.length k3,G a4 E.length k4] 57)).alloc (.cells #[f H kn,f H sf,G I z.length O,G J y.length T,G L A.length U,G M d.length V,G N D.length X] 57)) (by go_grown);have B':=Vh (w.alloc (.cells #[f H kn,f H sf,G a0 done.length k0,G a1 base.length k1,G a2 C.length k2,G a3 x.length k3,G a4 E.length k4] 57)) 57 #[f H kn,f H sf,G I z.length O,G J y.length T,G L A.length U,G M d.length V,G N D.length X];simp only[World.size_alloc]at B';obtain⟨q0,q1,q2,q3,q4,q5,q6⟩:=B.cel7;have s0:=B'.cell 0 _ rfl;have s1:=B'.cell 1 _ rfl;have s2:=B'.cell 2 _ rfl;have s3:=B'.cell 3 _ rfl;have s4:=B'.cell 4 _ rfl;have s5:=B'.cell 5 _ rfl;have s6:=B'.cell 6 _ rfl;have n0:(kn !=kn)=false:=by simp
 have n1:(sf !=sf)=false:=by simp
 go_enter func48,ntmps48
 go_wp2_with fail
 clear q0 q1 q2 q3 q4 q5 q6 s0 s1 s2 s3 s4 s5 s6 B B';have aa:=hr _ hB;have Y:=Z _ hB;generalize ((w.alloc (.cells #[f H kn,f H sf,G a0 done.length k0,G a1 base.length k1,G a2 C.length k2,G a3 x.length k3,G a4 E.length k4] 57)).alloc (.cells #[f H kn,f H sf,G I z.length O,G J y.length T,G L A.length U,G M d.length V,G N D.length X] 57))=W at*;refine(hm W aa Y).mono ?_;rintro e w3 ⟨rfl,hb⟩;replace hB:=hB.trans (hb.mono hB.size)
 go_wp2
 go_ret;exact⟨rfl,hB⟩
theorem z2Q:(Sl.info? 64).map (fun i=>(i.zero,i.size,i.bytes))=some (some (.agg #[.bool false,G none 0 0,G none 0 0,G none 0 0]),4,80):=by kernel_rfl
theorem z7t(v:Value)(ps:List InstQ)(c:Int)(w:World)(h:instK.At w v ps)(hn:ps.length≤9223372036854775807)(J:∀p∈ps,InstQ.wf p)(h0:0≤c)(h1:c≤1048576):
  Calls Sl 13 #[v,f H c] w fun e w'=>∃r:Int,e=.returned (f H r)∧(¬r<0→((ps.length+nmL Vb ps:Nat):Int)+r=c)∧Below w.heap.size w w':=by
 obtain⟨a,cap,rfl⟩:=h.shape;by_cases U:c-ps.length<0
 ·go_enter func13,ntmps13
  go_wp2
  go_ret;exact⟨_,rfl,fun h=>by omega,Below.refl _ _⟩
 ·go_enter func13,ntmps13
  go_wp2
  go_loopw[1,5] (fun l i wr=>∃ (k:Nat) (x:Int),k≤ps.length∧i=f H k∧l=f H x∧0≤x∧x≤1048576∧Hid (ps.length+nmL Vb (ps.take k)+x=c)∧Below w.heap.size w wr) (fun _ i _=>ps.length-(intOf i).toNat)
  case atStart=>exact⟨0,c-ps.length,Vd _,rfl,by go_num,by omega,by omega,show _=_ by simp[nmL];omega,Below.refl _ _⟩
  case round=>
   obtain⟨k,x,hk,rfl,rfl,N,O,HS,hb⟩:=hrel;by_cases z:k<ps.length
   ·obtain⟨b,T,rfl,W,hc,M⟩:=(h.below hb).cell (by decide) k z;have d:∀j x,(instK.cells ps[k])[j]?=some x→wr.cell? ⟨b,T+k*4+j,none⟩=some x:=hc;have c0:=d 0 (.bool ps[k].has) rfl;have c1:=d 1 (ps[k].vb) rfl;have c2:=d 2 (ps[k].vr) rfl;have c3:=d 3 (ps[k].vd) rfl;have hs:=z0S Vb ps k z;have HN:=J _ (List.getElem_mem z);have A:Hid (∀y:Int,(Vb ps[k]:Int)+y=x→ps.length+nmL Vb (ps.take (k+1))+y=c):=by
     intro y hy;have:=HS.out;omega
    clear HS hs hc d;generalize ps[k]=p at*;have E:=z8g p x wr M HN N O;generalize Vb p=m at*;rw[Nat.add_zero]at c0
    go_wp2_with fail
    refine E.mono ?_;rintro e w2 ⟨r,rfl,hr,C⟩;replace hb:=hb.trans (C.mono hb.size);clear C E c0 c1 c2 c3;by_cases V:r<0
    ·go_wp2
     go_ret;exact⟨_,rfl,fun h=>by omega,hb⟩
    ·have D:=hr (by omega);have HR:Hid (ps.length+nmL Vb (ps.take (k+1))+r=c):=A.out r D;have L:r≤1048576:=by omega
     clear A hr D
     go_wp2
     go_roundw
     case rel=>exact⟨k+1,r,by omega,by go_num,rfl,by omega,L,HR.out,hb⟩
     case measure=>simp[intOf];omega
   ·have I:k=ps.length:=by omega
    subst I;rw[List.take_length]at HS
    go_wp2
    go_ret;exact⟨_,rfl,fun _=>by have:=HS.out;omega,hb⟩
theorem z7u(v v':Value)(ps qs:List InstQ)(w:World)(h:instK.At w v ps)(h':instK.At w v' qs)(he:ps.map Va=qs.map Va)(hl:(ps.length+nmL Vb ps)≤1048576):
  Calls Sl 25 #[v,v'] w fun e w'=>e=.returned (.bool true)∧Below w.heap.size w w':=by
 obtain⟨a,cap,rfl⟩:=h.shape;obtain⟨a',T,rfl⟩:=h'.shape;have y:qs.length=ps.length:=by
  have:=congrArg List.length he;simpa using this.symm
 rw[y]at h'⊢;have HL:Hid (qs.length=ps.length):=y;clear y;go_enter func25,ntmps25
 go_wp2
 go_loopw[5] (fun i wr=>∃k:Nat,k≤ps.length∧i=f H k∧Below w.heap.size w wr) (fun i _=>ps.length-(intOf i).toNat)
 case atStart=>exact⟨0,Vd _,rfl,Below.refl _ _⟩
 case round=>
  obtain⟨k,hk,rfl,hb⟩:=hrel;by_cases C:k<ps.length
  ·have z:k<qs.length:=by have:=HL.out;omega
   obtain⟨b,O,rfl,V,hc,J⟩:=(h.below hb).cell (by decide) k C;obtain⟨b',L,rfl,U,hd,A⟩:=(h'.below hb).cell (by decide) k z;have c:∀j x,(instK.cells ps[k])[j]?=some x→wr.cell? ⟨b,O+k*4+j,none⟩=some x:=hc;have d:∀j x,(instK.cells qs[k])[j]?=some x→wr.cell? ⟨b',L+k*4+j,none⟩=some x:=hd;have c0:=c 0 (.bool ps[k].has) rfl;have d0:=d 0 (.bool qs[k].has) rfl;have c1:=c 1 (ps[k].vb) rfl;have d1:=d 1 (qs[k].vb) rfl;have c2:=c 2 (ps[k].vr) rfl;have d2:=d 2 (qs[k].vr) rfl;have c3:=c 3 (ps[k].vd) rfl;have d3:=d 3 (qs[k].vd) rfl;have I:Va ps[k]=Va qs[k]:=by
    have:=congrArg (·[k]?) he;simpa[C,z]using this
   have N:=z01 Vb ps k C;clear hc c hd d;generalize ps[k]=p at*;generalize qs[k]=p' at*;have D:=fun w h1 h2=>z8h p p' w h1 h2 I (show Vb p≤1048576 by omega)
   clear I N;rw[Nat.add_zero]at c0 d0;have k0:=z0a c0;have l0:=z0a d0;have k1:=z0a c1;have l1:=z0a d1;have k2:=z0a c2;have l2:=z0a d2;have k3:=z0a c3;have l3:=z0a d3;clear c0 d0 c1 d1 c2 d2 c3 d3;have hW:Below wr.heap.size wr wr.drew:=(Below.refl _ _).drew;have M:Nonempty (Lat wr):=⟨⟨wr,Below.refl _ _⟩⟩
   go_wp2_with fail
   refine z0b (S:=fun w'=>∃u:Lat wr,w'=u.val) (by kernel_rfl) ?_;refine sgr [(0,8)] 2 (by kernel_rfl) ⟨⟨_,hW⟩,rfl⟩ ?_;simp only[pkE];repeat go_big_quiet_step (fail)
   refine wpQuiet_nil ?_;refine cla 8 (some 25) 47 #[.agg #[.bool p.has,p.vb,p.vr,p.vd],.agg #[.bool p'.has,p'.vb,p'.vr,p'.vd]] 1 (by kernel_rfl) ?_;refine(D _ (instK.rd_below J hW) (instK.rd_below A hW)).mono ?_;rintro e w2 ⟨rfl,E⟩;replace hW:=hW.trans (E.mono hW.size);clear E;refine⟨_,rfl,⟨⟨_,hW⟩,rfl⟩,?_⟩;simp only[Vi,pjE];refine sgr [(9,1)] 0 (by kernel_rfl) ⟨⟨_,hW⟩,rfl⟩ ?_;simp only[pkE];repeat go_big_quiet_step (fail)
   refine wpQuiet_nil ?_;refine z0g (by kernel_rfl) ?_;replace hb:=hb.trans (hW.mono hb.size);clear k0 l0 k1 l1 k2 l2 k3 l3 hW M J A D
   go_wp2
   go_roundw
   case rel=>exact⟨k+1,by omega,by go_num,hb⟩
   case measure=>simp[intOf];omega
  ·go_wp2
   go_ret;exact⟨rfl,hb⟩
theorem z7v(v:Value)(ps:List InstQ)(w:World)(h:instK.At w v ps)(hl:(ps.length+nmL Vb ps)≤1048576):
  Calls Sl 18 #[v] w fun e w'=>∃v' qs,e=.returned v'∧qs.map Va=ps.map Va∧instK.Own w' v' qs∧(instK.fp v' qs).Nodup∧(∀k∈instK.fp v' qs,w.heap.size≤k)∧Below w.heap.size w w':=by
 obtain⟨a,cap,rfl⟩:=h.shape;obtain⟨i0,hi,ao,ap,aq⟩:=info_parts z2Q;have M:i0.bytes*ps.length≤281474976710656:=by rw[aq];omega
 have ae:ps.length≤maxLen:=by unfold maxLen;omega
 go_enter func18,ntmps18
 go_wp2_with (at_make;refine wpList_make_full _ rfl _ _ 27 rfl w.heap.size 64 i0 (.agg #[.bool false,G none 0 0,G none 0 0,G none 0 0]) 4 Tryz.underlying27 hi ao ap _ _ _ _ ps.length rfl rfl rfl rfl M ae (Vc _) ?_)
 intro w1 O I;have Z:Below w.heap.size w w1:=(Below.refl _ _).grown I (Vc _) (by simp);have hO:instK.Own w1 (G (some ⟨w.heap.size,0,none⟩) ps.length ps.length) (List.replicate ps.length (⟨false,G none 0 0,[],G none 0 0,[],G none 0 0,[]⟩:InstQ)):=by
  refine⟨?_,fun p hp=>?_⟩
  ·rw[List.length_replicate,←z3Q (⟨false,G none 0 0,[],G none 0 0,[],G none 0 0,[]⟩:InstQ) _ (by decide)];exact z0r O (Vd _)
  ·rw[(List.mem_replicate.1 hp).2];exact⟨⟨World.ownsRow_nil _ _ _ _,fun p hp=>by simp at hp⟩,⟨World.ownsRow_nil _ _ _ _,fun p hp=>by simp at hp⟩,⟨World.ownsRow_nil _ _ _ _,fun p hp=>by simp at hp⟩⟩
 have hF:instK.fp (G (some ⟨w.heap.size,0,none⟩) ps.length ps.length) (List.replicate ps.length (⟨false,G none 0 0,[],G none 0 0,[],G none 0 0,[]⟩:InstQ))=[w.heap.size]:=z8d rfl;have HN:Hid ((instK.fp (G (some ⟨w.heap.size,0,none⟩) ps.length ps.length) (List.replicate ps.length (⟨false,G none 0 0,[],G none 0 0,[],G none 0 0,[]⟩:InstQ))).Nodup):=by rw[hF];show List.Nodup _;simp
 have HG:Hid (∀x∈instK.fp (G (some ⟨w.heap.size,0,none⟩) ps.length ps.length) (List.replicate ps.length (⟨false,G none 0 0,[],G none 0 0,[],G none 0 0,[]⟩:InstQ)),w.heap.size≤x):=by rw[hF];intro x hx;simp at hx;omega
 have HZ:Hid (∀j (hj:j<(List.replicate ps.length (⟨false,G none 0 0,[],G none 0 0,[],G none 0 0,[]⟩:InstQ)).length),0≤j→(List.replicate ps.length (⟨false,G none 0 0,[],G none 0 0,[],G none 0 0,[]⟩:InstQ))[j]=(⟨false,G none 0 0,[],G none 0 0,[],G none 0 0,[]⟩:InstQ)):=fun j hj _=>by simp
 have af:(List.replicate ps.length (⟨false,G none 0 0,[],G none 0 0,[],G none 0 0,[]⟩:InstQ)).length=ps.length:=by simp
 clear O I hF;generalize List.replicate ps.length (⟨false,G none 0 0,[],G none 0 0,[],G none 0 0,[]⟩:InstQ)=aj at*;have HE:Hid ((aj.take 0).map Va=(ps.take 0).map Va):=show _=_ by simp
 go_wp2
 go_loopw [4] (fun i wr=>∃ (k:Nat) (qs:List InstQ),k≤ps.length∧i=f H k∧Hid (qs.length=ps.length)∧Hid ((qs.take k).map Va=(ps.take k).map Va)∧Hid (∀ j (hj:j < qs.length),k≤j→qs[j]=(⟨false,G none 0 0,[],G none 0 0,[],G none 0 0,[]⟩:InstQ))∧instK.Own wr (G (some ⟨w.heap.size,0,none⟩) ps.length ps.length) qs ∧
  Hid ((instK.fp (G (some ⟨w.heap.size,0,none⟩) ps.length ps.length) qs).Nodup)∧Hid (∀ x∈instK.fp (G (some ⟨w.heap.size,0,none⟩) ps.length ps.length) qs,w.heap.size≤x)∧Below w.heap.size w wr) (fun i _=>ps.length - (intOf i).toNat)
 case atStart=>exact⟨0,aj,Vd _,rfl,af,HE,HZ,hO,HN,HG,Z⟩
 case round=>
  clear HE HZ hO HN HG Z af;obtain⟨k,qs,hk,rfl,HQ,HE,HZ,hO,HN,HG,hb⟩:=hrel;by_cases W:k<ps.length
  ·have c:k<qs.length:=by have:=HQ.out;omega
   have D:=HZ.out k c (Vc _);obtain⟨b,ar,rfl,au,hc,ag⟩:=(h.below hb).cell (by decide) k W;have E:∀j x,(instK.cells ps[k])[j]?=some x→wr.cell? ⟨b,ar+k*4+j,none⟩=some x:=hc;have c0:=E 0 (.bool ps[k].has) rfl;have c1:=E 1 (ps[k].vb) rfl;have c2:=E 2 (ps[k].vr) rfl;have c3:=E 3 (ps[k].vd) rfl;have ax:=z01 Vb ps k W;have Y:Hid (∀p':InstQ,p'.e=Va ps[k]→((qs.set k p').take (k+1)).map Va=(ps.take (k+1)).map Va):=by
    intro p' am;have h1:=HE.out;rw[Vk W,Vk (show k<(qs.set k p').length by simpa using c)];simp only[List.map_append,List.map_cons,List.map_nil,List.getElem_set_self,am,List.take_set_of_le (Vc k),h1]
   clear hc E;generalize ps[k]=p at*;have ah:=z8i p wr ag (by omega);rw[Nat.add_zero]at c0
   go_wp2_with fail
   refine ah.mono ?_;rintro e w2 ⟨p',rfl,X,d,J,y,aa⟩;obtain⟨x0,x1,y1,x2,y2,x3,y3⟩:=p';obtain⟨o1,o2,o3⟩:txnK.Own w2 x1 y1∧roundK.Own w2 x2 y2∧intK.Own w2 x3 y3:=And.intro d.1 d.2;obtain⟨a1,b1,rfl⟩:=o1.shape;obtain⟨a2,b2,rfl⟩:=o2.shape;obtain⟨a3,b3,rfl⟩:=o3.shape;clear o1 o2 o3;dsimp only;generalize hP:(⟨x0,G a1 y1.length b1,y1,G a2 y2.length b2,y2,G a3 y3.length b3,y3⟩:InstQ)=p' at X d J y;have U:instK.cells p'=[.bool x0,G a1 y1.length b1,G a2 y2.length b2,G a3 y3.length b3]:=by rw[←hP];rfl
   have z:=hO.below aa;obtain⟨e0,f0⟩:=z.cell k c 0 _ (by rw[D];rfl);obtain⟨e1,f1⟩:=z.cell k c 1 _ (by rw[D];rfl);obtain⟨e2,f2⟩:=z.cell k c 2 _ (by rw[D];rfl);obtain⟨e3,f3⟩:=z.cell k c 3 _ (by rw[D];rfl);have ad:∀j,k*instK.size+j=k*4+j:=fun j=>rfl
   rw[ad]at e0 f0 e1 f1 e2 f2 e3 f3;rw[Nat.add_zero]at e0 f0;have A:=z.1;have hQ:=HQ.out;rw[hQ]at A;have C:=z1l A (k*4) [.bool x0,G a1 y1.length b1,G a2 y2.length b2,G a3 y3.length b3];rw[←U]at C;have V:∀x∈instK.fp (G (some ⟨w.heap.size,0,none⟩) ps.length ps.length) qs,x<wr.heap.size:=hO.lt;have ab:w.heap.size∈instK.fp (G (some ⟨w.heap.size,0,none⟩) ps.length ps.length) qs:=by simp[Kind.fp,blk,Value.ownBlock]
   have av:w.heap.size<wr.heap.size:=V _ ab;have L:=HN.out;have N:∀x∈instK.foot p',x∉instK.fp (G (some ⟨w.heap.size,0,none⟩) ps.length ps.length) qs:=fun x hx an=>by have:=y x hx;have:=V x an;omega
   have T:instK.Own ((((w2.setCell ⟨w.heap.size,k*4,none⟩ (.bool x0)).setCell ⟨w.heap.size,k*4+1,none⟩ (G a1 y1.length b1)).setCell ⟨w.heap.size,k*4+2,none⟩ (G a2 y2.length b2)).setCell ⟨w.heap.size,k*4+3,none⟩ (G a3 y3.length b3)) (G (some ⟨w.heap.size,0,none⟩) ps.length ps.length) (qs.set k p'):=by
    refine Kind.Own.put z k c p' ?_ ((((Vj _ _ _ _).trans (Vj _ _ _ _)).trans (Vj _ _ _ _)).trans (Vj _ _ _ _)) ?_ d ?_
    ·rw[hQ];rw[U]at C⊢;exact C
    ·intro q hq x hx ai;simp only[Kind.fp,blk,Value.ownBlock,Option.toList,List.cons_append,List.nil_append,List.nodup_cons]at L;exact L.1 (List.mem_flatMap.2 ⟨q,hq,ai▸hx⟩)
    ·intro x hx ai;have:=y x hx;omega
   have R:Hid (instK.Own ((((w2.setCell ⟨w.heap.size,k*4,none⟩ (.bool x0)).setCell ⟨w.heap.size,k*4+1,none⟩ (G a1 y1.length b1)).setCell ⟨w.heap.size,k*4+2,none⟩ (G a2 y2.length b2)).setCell ⟨w.heap.size,k*4+3,none⟩ (G a3 y3.length b3)) (G (some ⟨w.heap.size,0,none⟩) ps.length ps.length) (qs.set k p')∧Below w.heap.size w ((((w2.setCell ⟨w.heap.size,k*4,none⟩ (.bool x0)).setCell ⟨w.heap.size,k*4+1,none⟩ (G a1 y1.length b1)).setCell ⟨w.heap.size,k*4+2,none⟩ (G a2 y2.length b2)).setCell ⟨w.heap.size,k*4+3,none⟩ (G a3 y3.length b3))):=by
    refine⟨T,?_⟩;have ak:=hb.trans (aa.mono hb.size);exact((((ak.setCell (p:=⟨w.heap.size,k*4,none⟩) (Vc _) _).setCell (p:=⟨w.heap.size,k*4+1,none⟩) (Vc _) _).setCell (p:=⟨w.heap.size,k*4+2,none⟩) (Vc _) _).setCell (p:=⟨w.heap.size,k*4+3,none⟩) (Vc _) _)
   have R1:Hid ((instK.fp (G (some ⟨w.heap.size,0,none⟩) ps.length ps.length) (qs.set k p')).Nodup):=z2F L k c p' (by rw[D];rfl) J N;have R2:Hid (∀x∈instK.fp (G (some ⟨w.heap.size,0,none⟩) ps.length ps.length) (qs.set k p'),w.heap.size≤x):=by
    intro x hx;simp only[Kind.fp,List.mem_append]at hx;rcases hx with hx|hx
    ·exact HG.out x (by simp only[Kind.fp,List.mem_append];exact Or.inl hx)
    ·rcases z1a c hx with hx|hx
     ·exact HG.out x (by simp only[Kind.fp,List.mem_append];exact Or.inr hx)
     ·have:=y x hx;omega
   have R3:Hid (∀j (hj:j<(qs.set k p').length),k+1≤j→(qs.set k p')[j]=(⟨false,G none 0 0,[],G none 0 0,[],G none 0 0,[]⟩:InstQ)):=fun j hj aw=>by
    rw[List.getElem_set_ne (by omega)];exact HZ.out j (by simpa using hj) (by omega)
   have R4:Hid ((qs.set k p').length=ps.length):=by rw[List.length_set];exact HQ.out
   have R5:Hid (((qs.set k p').take (k+1)).map Va=(ps.take (k+1)).map Va):=Y.out p' X;clear T C A hQ z hO HN HG HZ HE HQ Y L N d J y V ab hb D ag ah X ad U hP
   go_wp2
   go_roundw
   case rel=>exact⟨k+1,qs.set k p',by omega,by go_num,R4.out,R5.out,R3.out,R.out.1,R1.out,R2.out,R.out.2⟩
   case measure=>simp[intOf];omega
  ·have al:k=ps.length:=by omega
   subst al;have hQ:=HQ.out;have hE:=HE.out;rw[List.take_length,List.take_of_length_le (by omega)]at hE;clear HE HZ
   go_wp2
   go_ret;exact⟨_,qs,rfl,hE,hO,HN.out,HG.out,hb⟩
structure NodeQ where
 kn:Int
 sf:Int
 vd:Value
 done:List TxnQ
 vb:Value
 base:List ItemD
 vt:Value
 tent:List TxnQ
 vu:Value
 undos:List USQ
 vn:Value
 now:List ItemD
structure NodeE where
 kn:Int
 sf:Int
 rep:RepE
def NodeQ.r(p:NodeQ):RepQ:=⟨p.vd,p.done,p.vb,p.base,p.vt,p.tent,p.vu,p.undos,p.vn,p.now⟩
def NodeQ.of(kn sf:Int)(r:RepQ):NodeQ:=⟨kn,sf,r.vd,r.done,r.vb,r.base,r.vt,r.tent,r.vu,r.undos,r.vn,r.now⟩
def NodeQ.e(p:NodeQ):NodeE:=⟨p.kn,p.sf,p.r.e⟩
def NodeQ.n(p:NodeQ):Nat:=p.r.n
def NodeQ.wf(p:NodeQ):Prop:=p.r.wf
def nodeK:Kind NodeQ where
 ty:=57
 size:=7
 cells p:=[f H p.kn,f H p.sf,p.vd,p.vb,p.vt,p.vu,p.vn]
 own w p:=repK.own w p.r
 rd w p:=repK.rd w p.r
 foot p:=repK.foot p.r
 len _:=rfl
 own_rd h:=repK.own_rd h
 own_out h ho hd:=repK.own_out h ho hd
 own_lt h:=repK.own_lt h
 rd_below h hb:=repK.rd_below h hb
theorem z4t:(Sl.info? 57).map (fun i=>(i.zero,i.size,i.bytes))=some (some (.agg #[f H 0,f H 0,G none 0 0,G none 0 0,G none 0 0,G none 0 0,G none 0 0]),7,136):=by kernel_rfl
theorem q38(p:NodeQ)(c:Int)(w:World)(h:nodeK.rd w p)(hn:NodeQ.wf p)(h0:0≤c)(h1:c≤1048576):
  Calls Sl 31 #[.agg #[f H p.kn,f H p.sf,p.vd,p.vb,p.vt,p.vu,p.vn],f H c] w fun e w'=>∃r:Int,e=.returned (f H r)∧(¬r<0→(NodeQ.n p:Int)+r=c)∧Below w.heap.size w w':=
 q35 p.kn p.sf p.r c w h hn h0 h1
theorem q39(p p':NodeQ)(w:World)(h:nodeK.rd w p)(h':nodeK.rd w p')(he:p.e=p'.e)(hl:NodeQ.n p≤1048576):
  Calls Sl 48 #[.agg #[f H p.kn,f H p.sf,p.vd,p.vb,p.vt,p.vu,p.vn],.agg #[f H p'.kn,f H p'.sf,p'.vd,p'.vb,p'.vt,p'.vu,p'.vn]] w fun e w'=>e=.returned (.bool true)∧Below w.heap.size w w':=by
 simp only[NodeQ.e,NodeE.mk.injEq]at he;obtain⟨e1,e2,e3⟩:=he;rw[←e1,←e2];exact q37 p.kn p.sf p.r p'.r w h h' e3 hl
theorem q4a(p:NodeQ)(w:World)(h:nodeK.rd w p)(hl:NodeQ.n p≤1048576):
  Calls Sl 40 #[.agg #[f H p.kn,f H p.sf,p.vd,p.vb,p.vt,p.vu,p.vn]] w fun e w'=>∃p':NodeQ,e=.returned (.agg #[f H p'.kn,f H p'.sf,p'.vd,p'.vb,p'.vt,p'.vu,p'.vn])∧p'.e=p.e∧nodeK.own w' p'∧(nodeK.foot p').Nodup∧(∀k∈nodeK.foot p',w.heap.size≤k)∧Below w.heap.size w w':=by
 refine(q36 p.kn p.sf p.r w h hl).mono ?_;rintro e w' ⟨q,rfl,hE,hO,hN,hG,hb⟩;refine⟨NodeQ.of p.kn p.sf q,rfl,?_,hO,hN,hG,hb⟩;show(⟨p.kn,p.sf,q.e⟩:NodeE)=⟨p.kn,p.sf,p.r.e⟩
 rw[hE]
theorem q2G(v:Value)(ps:List NodeQ)(c:Int)(w:World)(h:nodeK.At w v ps)(hn:ps.length≤9223372036854775807)(J:∀p∈ps,NodeQ.wf p)(h0:0≤c)(h1:c≤1048576):
  Calls Sl 14 #[v,f H c] w fun e w'=>∃r:Int,e=.returned (f H r)∧(¬r<0→((ps.length+nmL NodeQ.n ps:Nat):Int)+r=c)∧Below w.heap.size w w':=by
 obtain⟨a,cap,rfl⟩:=h.shape;by_cases U:c-ps.length<0
 ·go_enter func14,ntmps14
  go_wp2
  go_ret;exact⟨_,rfl,fun h=>by omega,Below.refl _ _⟩
 ·go_enter func14,ntmps14
  go_wp2
  go_loopw[1,5] (fun l i wr=>∃ (k:Nat) (x:Int),k≤ps.length∧i=f H k∧l=f H x∧0≤x∧x≤1048576∧Hid (ps.length+nmL NodeQ.n (ps.take k)+x=c)∧Below w.heap.size w wr) (fun _ i _=>ps.length-(intOf i).toNat)
  case atStart=>exact⟨0,c-ps.length,Vd _,rfl,by go_num,by omega,by omega,show _=_ by simp[nmL];omega,Below.refl _ _⟩
  case round=>
   obtain⟨k,x,hk,rfl,rfl,N,O,HS,hb⟩:=hrel;by_cases z:k<ps.length
   ·obtain⟨b,T,rfl,W,hc,M⟩:=(h.below hb).cell (by decide) k z;have d:∀j x,(nodeK.cells ps[k])[j]?=some x→wr.cell? ⟨b,T+k*7+j,none⟩=some x:=hc;have c0:=d 0 (f H ps[k].kn) rfl;have c1:=d 1 (f H ps[k].sf) rfl;have c2:=d 2 (ps[k].vd) rfl;have c3:=d 3 (ps[k].vb) rfl;have c4:=d 4 (ps[k].vt) rfl;have c5:=d 5 (ps[k].vu) rfl;have c6:=d 6 (ps[k].vn) rfl;have hs:=z0S NodeQ.n ps k z;have HN:=J _ (List.getElem_mem z);have A:Hid (∀y:Int,(NodeQ.n ps[k]:Int)+y=x→ps.length+nmL NodeQ.n (ps.take (k+1))+y=c):=by
     intro y hy;have:=HS.out;omega
    clear HS hs hc d;generalize ps[k]=p at*;have E:=q38 p x wr M HN N O;generalize NodeQ.n p=m at*;rw[Nat.add_zero]at c0
    go_wp2_with fail
    refine E.mono ?_;rintro e w2 ⟨r,rfl,hr,C⟩;replace hb:=hb.trans (C.mono hb.size);clear C E c0 c1 c2 c3 c4 c5 c6;by_cases V:r<0
    ·go_wp2
     go_ret;exact⟨_,rfl,fun h=>by omega,hb⟩
    ·have D:=hr (by omega);have HR:Hid (ps.length+nmL NodeQ.n (ps.take (k+1))+r=c):=A.out r D;have L:r≤1048576:=by omega
     clear A hr D
     go_wp2
     go_roundw
     case rel=>exact⟨k+1,r,by omega,by go_num,rfl,by omega,L,HR.out,hb⟩
     case measure=>simp[intOf];omega
   ·have I:k=ps.length:=by omega
    subst I;rw[List.take_length]at HS
    go_wp2
    go_ret;exact⟨_,rfl,fun _=>by have:=HS.out;omega,hb⟩
theorem q2H(v v':Value)(ps qs:List NodeQ)(w:World)(h:nodeK.At w v ps)(h':nodeK.At w v' qs)(he:ps.map NodeQ.e=qs.map NodeQ.e)(hl:(ps.length+nmL NodeQ.n ps)≤1048576):
  Calls Sl 26 #[v,v'] w fun e w'=>e=.returned (.bool true)∧Below w.heap.size w w':=by
 obtain⟨a,cap,rfl⟩:=h.shape;obtain⟨a',T,rfl⟩:=h'.shape;have y:qs.length=ps.length:=by
  have:=congrArg List.length he;simpa using this.symm
 rw[y]at h'⊢;have HL:Hid (qs.length=ps.length):=y;clear y;go_enter func26,ntmps26
 go_wp2
 go_loopw[5] (fun i wr=>∃k:Nat,k≤ps.length∧i=f H k∧Below w.heap.size w wr) (fun i _=>ps.length-(intOf i).toNat)
 case atStart=>exact⟨0,Vd _,rfl,Below.refl _ _⟩
 case round=>
  obtain⟨k,hk,rfl,hb⟩:=hrel;by_cases C:k<ps.length
  ·have z:k<qs.length:=by have:=HL.out;omega
   obtain⟨b,O,rfl,V,hc,J⟩:=(h.below hb).cell (by decide) k C;obtain⟨b',L,rfl,U,hd,A⟩:=(h'.below hb).cell (by decide) k z;have c:∀j x,(nodeK.cells ps[k])[j]?=some x→wr.cell? ⟨b,O+k*7+j,none⟩=some x:=hc;have d:∀j x,(nodeK.cells qs[k])[j]?=some x→wr.cell? ⟨b',L+k*7+j,none⟩=some x:=hd;have c0:=c 0 (f H ps[k].kn) rfl;have d0:=d 0 (f H qs[k].kn) rfl;have c1:=c 1 (f H ps[k].sf) rfl;have d1:=d 1 (f H qs[k].sf) rfl;have c2:=c 2 (ps[k].vd) rfl;have d2:=d 2 (qs[k].vd) rfl;have c3:=c 3 (ps[k].vb) rfl;have d3:=d 3 (qs[k].vb) rfl;have c4:=c 4 (ps[k].vt) rfl;have d4:=d 4 (qs[k].vt) rfl;have c5:=c 5 (ps[k].vu) rfl;have d5:=d 5 (qs[k].vu) rfl;have c6:=c 6 (ps[k].vn) rfl;have d6:=d 6 (qs[k].vn) rfl;have I:NodeQ.e ps[k]=NodeQ.e qs[k]:=by
    have:=congrArg (·[k]?) he;simpa[C,z]using this
   have N:=z01 NodeQ.n ps k C;clear hc c hd d;generalize ps[k]=p at*;generalize qs[k]=p' at*;have D:=fun w h1 h2=>q39 p p' w h1 h2 I (show NodeQ.n p≤1048576 by omega)
   clear I N;rw[Nat.add_zero]at c0 d0;have k0:=z0a c0;have l0:=z0a d0;have k1:=z0a c1;have l1:=z0a d1;have k2:=z0a c2;have l2:=z0a d2;have k3:=z0a c3;have l3:=z0a d3;have k4:=z0a c4;have l4:=z0a d4;have k5:=z0a c5;have l5:=z0a d5;have k6:=z0a c6;have l6:=z0a d6;clear c0 d0 c1 d1 c2 d2 c3 d3 c4 d4 c5 d5 c6 d6;have hW:Below wr.heap.size wr wr.drew:=(Below.refl _ _).drew;have M:Nonempty (Lat wr):=⟨⟨wr,Below.refl _ _⟩⟩
   go_wp2_with fail
   refine z0b (S:=fun w'=>∃u:Lat wr,w'=u.val) (by kernel_rfl) ?_;refine sgr [(0,8)] 2 (by kernel_rfl) ⟨⟨_,hW⟩,rfl⟩ ?_;simp only[pkE];repeat go_big_quiet_step (fail)
   refine wpQuiet_nil ?_;refine cla 8 (some 25) 48 #[.agg #[f H p.kn,f H p.sf,p.vd,p.vb,p.vt,p.vu,p.vn],.agg #[f H p'.kn,f H p'.sf,p'.vd,p'.vb,p'.vt,p'.vu,p'.vn]] 1 (by kernel_rfl) ?_;refine(D _ (nodeK.rd_below J hW) (nodeK.rd_below A hW)).mono ?_;rintro e w2 ⟨rfl,E⟩;replace hW:=hW.trans (E.mono hW.size);clear E;refine⟨_,rfl,⟨⟨_,hW⟩,rfl⟩,?_⟩;simp only[Vi,pjE];refine sgr [(9,1)] 0 (by kernel_rfl) ⟨⟨_,hW⟩,rfl⟩ ?_;simp only[pkE];repeat go_big_quiet_step (fail)
   refine wpQuiet_nil ?_;refine z0g (by kernel_rfl) ?_;replace hb:=hb.trans (hW.mono hb.size);clear k0 l0 k1 l1 k2 l2 k3 l3 k4 l4 k5 l5 k6 l6 hW M J A D
   go_wp2
   go_roundw
   case rel=>exact⟨k+1,by omega,by go_num,hb⟩
   case measure=>simp[intOf];omega
  ·go_wp2
   go_ret;exact⟨rfl,hb⟩
theorem q2I(v:Value)(ps:List NodeQ)(w:World)(h:nodeK.At w v ps)(hl:(ps.length+nmL NodeQ.n ps)≤1048576):
  Calls Sl 19 #[v] w fun e w'=>∃v' qs,e=.returned v'∧qs.map NodeQ.e=ps.map NodeQ.e∧nodeK.Own w' v' qs∧(nodeK.fp v' qs).Nodup∧(∀k∈nodeK.fp v' qs,w.heap.size≤k)∧Below w.heap.size w w':=by
 obtain⟨a,cap,rfl⟩:=h.shape;obtain⟨i0,hi,ao,ap,aq⟩:=info_parts z4t;have M:i0.bytes*ps.length≤281474976710656:=by rw[aq];omega
 have ae:ps.length≤maxLen:=by unfold maxLen;omega
 go_enter func19,ntmps19
 go_wp2_with (at_make;refine wpList_make_full _ rfl _ _ 28 rfl w.heap.size 57 i0 (.agg #[f H 0,f H 0,G none 0 0,G none 0 0,G none 0 0,G none 0 0,G none 0 0]) 7 Tryz.underlying28 hi ao ap _ _ _ _ ps.length rfl rfl rfl rfl M ae (Vc _) ?_)
 intro w1 O I;have Z:Below w.heap.size w w1:=(Below.refl _ _).grown I (Vc _) (by simp);have hO:nodeK.Own w1 (G (some ⟨w.heap.size,0,none⟩) ps.length ps.length) (List.replicate ps.length (⟨0,0,G none 0 0,[],G none 0 0,[],G none 0 0,[],G none 0 0,[],G none 0 0,[]⟩:NodeQ)):=by
  refine⟨?_,fun p hp=>?_⟩
  ·rw[List.length_replicate,←z3Q (⟨0,0,G none 0 0,[],G none 0 0,[],G none 0 0,[],G none 0 0,[],G none 0 0,[]⟩:NodeQ) _ (by decide)];exact z0r O (Vd _)
  ·rw[(List.mem_replicate.1 hp).2];exact⟨(Kind.own_nil _).1,(Kind.own_nil _).1,(Kind.own_nil _).1,(Kind.own_nil _).1,(Kind.own_nil _).1⟩
 have hF:nodeK.fp (G (some ⟨w.heap.size,0,none⟩) ps.length ps.length) (List.replicate ps.length (⟨0,0,G none 0 0,[],G none 0 0,[],G none 0 0,[],G none 0 0,[],G none 0 0,[]⟩:NodeQ))=[w.heap.size]:=z8d rfl;have HN:Hid ((nodeK.fp (G (some ⟨w.heap.size,0,none⟩) ps.length ps.length) (List.replicate ps.length (⟨0,0,G none 0 0,[],G none 0 0,[],G none 0 0,[],G none 0 0,[],G none 0 0,[]⟩:NodeQ))).Nodup):=by rw[hF];show List.Nodup _;simp
 have HG:Hid (∀x∈nodeK.fp (G (some ⟨w.heap.size,0,none⟩) ps.length ps.length) (List.replicate ps.length (⟨0,0,G none 0 0,[],G none 0 0,[],G none 0 0,[],G none 0 0,[],G none 0 0,[]⟩:NodeQ)),w.heap.size≤x):=by rw[hF];intro x hx;simp at hx;omega
 have HZ:Hid (∀j (hj:j<(List.replicate ps.length (⟨0,0,G none 0 0,[],G none 0 0,[],G none 0 0,[],G none 0 0,[],G none 0 0,[]⟩:NodeQ)).length),0≤j→(List.replicate ps.length (⟨0,0,G none 0 0,[],G none 0 0,[],G none 0 0,[],G none 0 0,[],G none 0 0,[]⟩:NodeQ))[j]=(⟨0,0,G none 0 0,[],G none 0 0,[],G none 0 0,[],G none 0 0,[],G none 0 0,[]⟩:NodeQ)):=fun j hj _=>by simp
 have af:(List.replicate ps.length (⟨0,0,G none 0 0,[],G none 0 0,[],G none 0 0,[],G none 0 0,[],G none 0 0,[]⟩:NodeQ)).length=ps.length:=by simp
 clear O I hF;generalize List.replicate ps.length (⟨0,0,G none 0 0,[],G none 0 0,[],G none 0 0,[],G none 0 0,[],G none 0 0,[]⟩:NodeQ)=aj at*;have HE:Hid ((aj.take 0).map NodeQ.e=(ps.take 0).map NodeQ.e):=show _=_ by simp
 go_wp2
 go_loopw [4] (fun i wr=>∃ (k:Nat) (qs:List NodeQ),k≤ps.length∧i=f H k∧Hid (qs.length=ps.length)∧Hid ((qs.take k).map NodeQ.e=(ps.take k).map NodeQ.e)∧Hid (∀ j (hj:j < qs.length),k≤j→qs[j]=(⟨0,0,G none 0 0,[],G none 0 0,[],G none 0 0,[],G none 0 0,[],G none 0 0,[]⟩:NodeQ))∧nodeK.Own wr (G (some ⟨w.heap.size,0,none⟩) ps.length ps.length) qs ∧
  Hid ((nodeK.fp (G (some ⟨w.heap.size,0,none⟩) ps.length ps.length) qs).Nodup)∧Hid (∀ x∈nodeK.fp (G (some ⟨w.heap.size,0,none⟩) ps.length ps.length) qs,w.heap.size≤x)∧Below w.heap.size w wr) (fun i _=>ps.length - (intOf i).toNat)
 case atStart=>exact⟨0,aj,Vd _,rfl,af,HE,HZ,hO,HN,HG,Z⟩
 case round=>
  clear HE HZ hO HN HG Z af;obtain⟨k,qs,hk,rfl,HQ,HE,HZ,hO,HN,HG,hb⟩:=hrel;by_cases W:k<ps.length
  ·have c:k<qs.length:=by have:=HQ.out;omega
   have z:=HZ.out k c (Vc _);obtain⟨b,ar,rfl,au,hc,ag⟩:=(h.below hb).cell (by decide) k W;have A:∀j x,(nodeK.cells ps[k])[j]?=some x→wr.cell? ⟨b,ar+k*7+j,none⟩=some x:=hc;have c0:=A 0 (f H ps[k].kn) rfl;have c1:=A 1 (f H ps[k].sf) rfl;have c2:=A 2 (ps[k].vd) rfl;have c3:=A 3 (ps[k].vb) rfl;have c4:=A 4 (ps[k].vt) rfl;have c5:=A 5 (ps[k].vu) rfl;have c6:=A 6 (ps[k].vn) rfl;have ax:=z01 NodeQ.n ps k W;have Y:Hid (∀p':NodeQ,p'.e=NodeQ.e ps[k]→((qs.set k p').take (k+1)).map NodeQ.e=(ps.take (k+1)).map NodeQ.e):=by
    intro p' am;have h1:=HE.out;rw[Vk W,Vk (show k<(qs.set k p').length by simpa using c)];simp only[List.map_append,List.map_cons,List.map_nil,List.getElem_set_self,am,List.take_set_of_le (Vc k),h1]
   clear hc A;generalize ps[k]=p at*;have ah:=q4a p wr ag (by omega);rw[Nat.add_zero]at c0
   go_wp2_with fail
   refine ah.mono ?_;rintro e w2 ⟨p',rfl,X,y,J,C,aa⟩;obtain⟨x0,x1,x2,y2,x3,y3,x4,y4,x5,y5,x6,y6⟩:=p';obtain⟨o2,o3,o4,o5,o6⟩:txnK.Own w2 x2 y2∧itemK.Own w2 x3 y3∧txnK.Own w2 x4 y4∧ussK.Own w2 x5 y5∧itemK.Own w2 x6 y6:=id y;obtain⟨a2,b2,rfl⟩:=o2.shape;obtain⟨a3,b3,rfl⟩:=o3.shape;obtain⟨a4,b4,rfl⟩:=o4.shape;obtain⟨a5,b5,rfl⟩:=o5.shape;obtain⟨a6,b6,rfl⟩:=o6.shape;clear o2 o3 o4 o5 o6;dsimp only;generalize hP:(⟨x0,x1,G a2 y2.length b2,y2,G a3 y3.length b3,y3,G a4 y4.length b4,y4,G a5 y5.length b5,y5,G a6 y6.length b6,y6⟩:NodeQ)=p' at X y J C;have U:nodeK.cells p'=[f H x0,f H x1,G a2 y2.length b2,G a3 y3.length b3,G a4 y4.length b4,G a5 y5.length b5,G a6 y6.length b6]:=by rw[←hP];rfl
   have d:=hO.below aa;obtain⟨e0,f0⟩:=d.cell k c 0 _ (by rw[z];rfl);obtain⟨e1,f1⟩:=d.cell k c 1 _ (by rw[z];rfl);obtain⟨e2,f2⟩:=d.cell k c 2 _ (by rw[z];rfl);obtain⟨e3,f3⟩:=d.cell k c 3 _ (by rw[z];rfl);obtain⟨e4,f4⟩:=d.cell k c 4 _ (by rw[z];rfl);obtain⟨e5,f5⟩:=d.cell k c 5 _ (by rw[z];rfl);obtain⟨e6,f6⟩:=d.cell k c 6 _ (by rw[z];rfl);have ad:∀j,k*nodeK.size+j=k*7+j:=fun j=>rfl
   rw[ad]at e0 f0 e1 f1 e2 f2 e3 f3 e4 f4 e5 f5 e6 f6;rw[Nat.add_zero]at e0 f0;have D:=d.1;have hQ:=HQ.out;rw[hQ]at D;have E:=z1l D (k*7) [f H x0,f H x1,G a2 y2.length b2,G a3 y3.length b3,G a4 y4.length b4,G a5 y5.length b5,G a6 y6.length b6];rw[←U]at E;have V:∀x∈nodeK.fp (G (some ⟨w.heap.size,0,none⟩) ps.length ps.length) qs,x<wr.heap.size:=hO.lt;have ab:w.heap.size∈nodeK.fp (G (some ⟨w.heap.size,0,none⟩) ps.length ps.length) qs:=by simp[Kind.fp,blk,Value.ownBlock]
   have av:w.heap.size<wr.heap.size:=V _ ab;have L:=HN.out;have N:∀x∈nodeK.foot p',x∉nodeK.fp (G (some ⟨w.heap.size,0,none⟩) ps.length ps.length) qs:=fun x hx an=>by have:=C x hx;have:=V x an;omega
   have T:nodeK.Own (((((((w2.setCell ⟨w.heap.size,k*7,none⟩ (f H x0)).setCell ⟨w.heap.size,k*7+1,none⟩ (f H x1)).setCell ⟨w.heap.size,k*7+2,none⟩ (G a2 y2.length b2)).setCell ⟨w.heap.size,k*7+3,none⟩ (G a3 y3.length b3)).setCell ⟨w.heap.size,k*7+4,none⟩ (G a4 y4.length b4)).setCell ⟨w.heap.size,k*7+5,none⟩ (G a5 y5.length b5)).setCell ⟨w.heap.size,k*7+6,none⟩ (G a6 y6.length b6)) (G (some ⟨w.heap.size,0,none⟩) ps.length ps.length) (qs.set k p'):=by
    refine Kind.Own.put d k c p' ?_ (((((((Vj _ _ _ _).trans (Vj _ _ _ _)).trans (Vj _ _ _ _)).trans (Vj _ _ _ _)).trans (Vj _ _ _ _)).trans (Vj _ _ _ _)).trans (Vj _ _ _ _)) ?_ y ?_
    ·rw[hQ];rw[U]at E⊢;exact E
    ·intro q hq x hx ai;simp only[Kind.fp,blk,Value.ownBlock,Option.toList,List.cons_append,List.nil_append,List.nodup_cons]at L;exact L.1 (List.mem_flatMap.2 ⟨q,hq,ai▸hx⟩)
    ·intro x hx ai;have:=C x hx;omega
   have R:Hid (nodeK.Own (((((((w2.setCell ⟨w.heap.size,k*7,none⟩ (f H x0)).setCell ⟨w.heap.size,k*7+1,none⟩ (f H x1)).setCell ⟨w.heap.size,k*7+2,none⟩ (G a2 y2.length b2)).setCell ⟨w.heap.size,k*7+3,none⟩ (G a3 y3.length b3)).setCell ⟨w.heap.size,k*7+4,none⟩ (G a4 y4.length b4)).setCell ⟨w.heap.size,k*7+5,none⟩ (G a5 y5.length b5)).setCell ⟨w.heap.size,k*7+6,none⟩ (G a6 y6.length b6)) (G (some ⟨w.heap.size,0,none⟩) ps.length ps.length) (qs.set k p')∧Below w.heap.size w (((((((w2.setCell ⟨w.heap.size,k*7,none⟩ (f H x0)).setCell ⟨w.heap.size,k*7+1,none⟩ (f H x1)).setCell ⟨w.heap.size,k*7+2,none⟩ (G a2 y2.length b2)).setCell ⟨w.heap.size,k*7+3,none⟩ (G a3 y3.length b3)).setCell ⟨w.heap.size,k*7+4,none⟩ (G a4 y4.length b4)).setCell ⟨w.heap.size,k*7+5,none⟩ (G a5 y5.length b5)).setCell ⟨w.heap.size,k*7+6,none⟩ (G a6 y6.length b6))):=by
    refine⟨T,?_⟩;have ak:=hb.trans (aa.mono hb.size);exact(((((((ak.setCell (p:=⟨w.heap.size,k*7,none⟩) (Vc _) _).setCell (p:=⟨w.heap.size,k*7+1,none⟩) (Vc _) _).setCell (p:=⟨w.heap.size,k*7+2,none⟩) (Vc _) _).setCell (p:=⟨w.heap.size,k*7+3,none⟩) (Vc _) _).setCell (p:=⟨w.heap.size,k*7+4,none⟩) (Vc _) _).setCell (p:=⟨w.heap.size,k*7+5,none⟩) (Vc _) _).setCell (p:=⟨w.heap.size,k*7+6,none⟩) (Vc _) _)
   have R1:Hid ((nodeK.fp (G (some ⟨w.heap.size,0,none⟩) ps.length ps.length) (qs.set k p')).Nodup):=z2F L k c p' (by rw[z];rfl) J N;have R2:Hid (∀x∈nodeK.fp (G (some ⟨w.heap.size,0,none⟩) ps.length ps.length) (qs.set k p'),w.heap.size≤x):=by
    intro x hx;simp only[Kind.fp,List.mem_append]at hx;rcases hx with hx|hx
    ·exact HG.out x (by simp only[Kind.fp,List.mem_append];exact Or.inl hx)
    ·rcases z1a c hx with hx|hx
     ·exact HG.out x (by simp only[Kind.fp,List.mem_append];exact Or.inr hx)
     ·have:=C x hx;omega
   have R3:Hid (∀j (hj:j<(qs.set k p').length),k+1≤j→(qs.set k p')[j]=(⟨0,0,G none 0 0,[],G none 0 0,[],G none 0 0,[],G none 0 0,[],G none 0 0,[]⟩:NodeQ)):=fun j hj aw=>by
    rw[List.getElem_set_ne (by omega)];exact HZ.out j (by simpa using hj) (by omega)
   have R4:Hid ((qs.set k p').length=ps.length):=by rw[List.length_set];exact HQ.out
   have R5:Hid (((qs.set k p').take (k+1)).map NodeQ.e=(ps.take (k+1)).map NodeQ.e):=Y.out p' X;clear T E D hQ d hO HN HG HZ HE HQ Y L N y J C V ab hb z ag ah X ad U hP
   go_wp2
   go_roundw
   case rel=>exact⟨k+1,qs.set k p',by omega,by go_num,R4.out,R5.out,R3.out,R.out.1,R1.out,R2.out,R.out.2⟩
   case measure=>simp[intOf];omega
  ·have al:k=ps.length:=by omega
   subst al;have hQ:=HQ.out;have hE:=HE.out;rw[List.take_length,List.take_of_length_le (by omega)]at hE;clear HE HZ
   go_wp2
   go_ret;exact⟨_,qs,rfl,hE,hO,HN.out,HG.out,hb⟩
end Go.Proofs.YtdppipeclnldeaaGreatDoor

import Derived.Test.YtjjoahhnkpjolaaGreatDoorONAL
set_option linter.unusedVariables false
set_option linter.unusedSimpArgs false
set_option maxRecDepth 100000
set_option maxHeartbeats 4000000
namespace Go.Proofs.YtjjoahhnkpjolaaGreatDoor
open Go.RowKit Go.BigFrame
open List renaming getD->Va,length_map->Vb,mem_singleton->Vc
open Act renaming put->Vd
open IntKind renaming i64->G
open Value renaming int->H,slice->l
open Go.Proofs.Tryz renaming prog->f
open Go.Proofs.Tryz
def bdOf(p:InstQ):List Value:=if insF p.e=0 then brdC p.has p.vb p.e.rounds p.dec else brd0
theorem z10{x:InstE}(h:insF x=0):shpF x=0∧q5Q x=true:=by
 unfold insF at h;by_cases h0:shpF x=0
 ·rw[if_pos h0]at h;refine⟨h0,?_⟩;by_cases h1:q5Q x=true
  ·exact h1
  ·rw[if_neg h1]at h;simp at h
 ·rw[if_neg h0]at h;exact absurd h h0
theorem q0j{x:InstE}(h:insF x=0):Wel x.rounds∧(1≤x.rounds.length∧x.rounds.length≤4)∧x.dec.length=3∧z0R x.rounds=0∧vf x.dec 1=0:=by
 obtain⟨h0,_⟩:=z10 h;obtain⟨h1,h2,h3,_⟩:=z1p h0;exact⟨q4D h2,h1,z07 h3,h2,h3⟩
theorem q5j {has:Bool} {vb:Value} {rs:List RoundE} {dec:List Int} (hv:vb.oneCell' = true):(brdC has vb rs dec).toArray.all (·.oneCell')=true:=all_oneCell_toArray (fun v hm=>by
 simp only[brdC,rndC,z4k,List.mem_append,List.mem_cons,List.mem_flatMap,List.mem_replicate,List.mem_map,z1e,List.not_mem_nil,or_false]at hm;rcases hm with (rfl | ⟨r,_,z,_,rfl⟩ | ⟨_,rfl⟩) | (rfl | rfl) | ⟨z,_,rfl⟩ <;> first | rfl | exact hv)
theorem q59{w:World}{p:InstQ}(h:instK.rd w p):(bdOf p).length=30∧(bdOf p).toArray.all (·.oneCell')=true:=by
 unfold bdOf;by_cases h0:insF p.e=0
 ·rw[if_pos h0];obtain⟨h1,h2,h3,_⟩:=q0j h0;refine⟨z3A h1 h2.2 h3,q5j ?_⟩;obtain⟨a,c,e⟩:=h.1.shape;rw[e];rfl
 ·rw[if_neg h0];exact⟨rfl,by kernel_rfl⟩
theorem z2N(p:InstQ)(w:World)(hG:Rul w)(h:instK.rd w p)(hl:p.n≤1048576):
  Calls f 44 #[.agg #[.bool p.has,p.vb,p.vr,p.vd]] w fun e w'=>e=.returned (H G (insF p.e))∧Below w.heap.size w w':=by
 obtain⟨z,I⟩:=q59 h;have y:=fun w hG h=>z5B p w hG h hl
 have A:=fun(w':World) hb=>instK.rd_below (w':=w') h hb
 change∀w hG h,Calls _ _ _ _ fun e w'=>e=.returned (.tuple #[.agg (bdOf p).toArray,_])∧_ at y
 generalize bdOf p=BD at*;generalize insF p.e=C at*;obtain⟨has,vb,x,vr,d,vd,dec⟩:=p;obtain⟨ba,bk,rfl⟩:∃a c,vb=l a x.length c:=h.1.shape;obtain⟨va,vk,rfl⟩:∃a c,vr=l a d.length c:=h.2.1.shape;obtain⟨da,dk,rfl⟩:∃a c,vd=l a dec.length c:=h.2.2.shape;dsimp only at y A;have hB:Below w.heap.size w (w.alloc (.cells #[.bool has,l ba x.length bk,l va d.length vk,l da dec.length dk] 89)):=by go_grown
 have J:(f.info? 138).map (·.size)=some BD.toArray.size:=by rw[List.size_toArray,z];exact z3T
 have E:(#[H G 0,H G 0,H G 0,H G 0,H G 0,H G 0,H G 0,H G 0,H G 0,H G 0,H G 0,H G 0,H G 0,H G 0,H G 0,H G 0,H G 0,H G 0,H G 0,H G 0,H G 0,H G 0,H G 0,H G 0,H G 0,.bool false,l none 0 0,H G 0,H G 0,H G 0]:Array Value).size=BD.toArray.size:=(show 30=BD.length from z.symm)
 go_enter func44,ntmps44
 go_wp2_with fail
 generalize w.alloc (.cells #[.bool has,l ba x.length bk,l va d.length vk,l da dec.length dk] 89)=W at*;refine(y W (hG.below hB) (A W hB)).mono ?_;rintro e w1 ⟨rfl,D⟩;replace hB:=hB.trans (D.mono hB.size);have Bz:=Blk.new w1 138 #[H G 0,H G 0,H G 0,H G 0,H G 0,H G 0,H G 0,H G 0,H G 0,H G 0,H G 0,H G 0,H G 0,H G 0,H G 0,H G 0,H G 0,H G 0,H G 0,H G 0,H G 0,H G 0,H G 0,H G 0,H G 0,.bool false,l none 0 0,H G 0,H G 0,H G 0];have L:=z0o (hB.alloc hB.size (.cells #[H G 0,H G 0,H G 0,H G 0,H G 0,H G 0,H G 0,H G 0,H G 0,H G 0,H G 0,H G 0,H G 0,H G 0,H G 0,H G 0,H G 0,H G 0,H G 0,H G 0,H G 0,H G 0,H G 0,H G 0,H G 0,.bool false,l none 0 0,H G 0,H G 0,H G 0] 138)) (g:=w1.heap.size) hB.size BD.toArray;clear y A D
 go_wp2_with (refine z0A (by kernel_rfl) 138 _ _ rfl _ BD.toArray rfl rfl 138 _ Bz J E I ?_)
 go_ret;exact⟨rfl,L⟩
def outV:List Int→Int
 |[]=>3
 |x::r=>if x=3 then outV r else x
theorem q2t(L:List Int):∀k,(∀j,j<k→L.getD j 0=3)→k<L.length→L.getD k 0≠3→outV L=L.getD k 0:=by
 induction L with
 |nil=>intro k _ h;simp at h
 |cons x r ih=>
  intro k h0 hk hne
  cases k with
  |zero=>simp[Va]at hne⊢;simp[outV,hne]
  |succ k=>
   have hx:x=3:=by simpa[Va]using h0 0 (by omega)
   have:=ih k (fun j hj=>by simpa[Va]using h0 (j+1) (by omega)) (by simpa using hk) (by simpa[Va]using hne);simp only[outV,hx,if_true];rw[this];simp[Va]
theorem z8t(L:List Int)(h:∀j,j<L.length→L.getD j 0=3):outV L=3:=by
 induction L with
 |nil=>rfl
 |cons x r ih=>
  have hx:x=3:=by simpa[Va]using h 0 (by simp)
  simp only[outV,hx,if_true];exact ih (fun j hj=>by simpa[Va]using h (j+1) (by simpa using hj))
def ocC(x:InstE):Int:=if insF x=0 then(if outV x.dec=3 then 4 else 0)else insF x
def ocV(x:InstE):Int:=if insF x=0 then(if outV x.dec=3 then 0 else outV x.dec)else 0
theorem z2O(p:InstQ)(w:World)(hG:Rul w)(h:instK.rd w p)(hl:p.n≤1048576):
  Calls f 81 #[.agg #[.bool p.has,p.vb,p.vr,p.vd]] w fun e w'=>e=.returned (.agg #[H G (ocC p.e),H G (ocV p.e)])∧Below w.heap.size w w':=by
 obtain⟨N,T⟩:=q59 h;have M:=fun w hG h=>z5B p w hG h hl
 have Y:=fun(w':World) hb=>instK.rd_below (w':=w') h hb
 change∀w hG h,Calls _ _ _ _ fun e w'=>e=.returned (.tuple #[.agg (bdOf p).toArray,_])∧_ at M
 have J:Hid (insF p.e=0→bdOf p=brdC p.has p.vb p.e.rounds p.dec∧Wel p.e.rounds∧p.e.rounds.length≤4∧p.dec.length=3):=fun h0=>by
  obtain⟨h1,h2,h3,_⟩:=q0j h0;exact⟨if_pos h0,h1,h2.2,h3⟩
 obtain⟨D,hD⟩:∃D,ocC p.e=D:=⟨_,rfl⟩
 obtain⟨E,hE⟩:∃E,ocV p.e=E:=⟨_,rfl⟩
 have z:Hid ((insF p.e=0→(D=if outV p.dec=3 then 4 else 0)∧(E=if outV p.dec=3 then 0 else outV p.dec))∧(insF p.e≠0→D=insF p.e∧E=0)):=by
  refine⟨fun h0=>⟨?_,?_⟩,fun h0=>⟨?_,?_⟩⟩
  ·rw[←hD];exact if_pos h0
  ·rw[←hE];exact if_pos h0
  ·rw[←hD];exact if_neg h0
  ·rw[←hE];exact if_neg h0
 rw[hD,hE];clear hD hE;generalize bdOf p=BD at*;generalize insF p.e=C at*;generalize p.e.rounds=rs at*;obtain⟨has,vb,x,vr,d,vd,dec⟩:=p;obtain⟨ba,bk,rfl⟩:∃a c,vb=l a x.length c:=h.1.shape;obtain⟨va,vk,rfl⟩:∃a c,vr=l a d.length c:=h.2.1.shape;obtain⟨da,dk,rfl⟩:∃a c,vd=l a dec.length c:=h.2.2.shape;dsimp only at M Y J z;have hB:Below w.heap.size w ((w.alloc (.cells #[.bool has,l ba x.length bk,l va d.length vk,l da dec.length dk] 89)).alloc (.cells #[H G 0,H G 0] 42)):=by go_grown
 have Rb:=Blk.new (w.alloc (.cells #[.bool has,l ba x.length bk,l va d.length vk,l da dec.length dk] 89)) 42 #[H G 0,H G 0];simp only[World.size_alloc]at Rb;have U:(f.info? 138).map (·.size)=some BD.toArray.size:=by rw[List.size_toArray,N];exact z3T
 have O:(#[H G 0,H G 0,H G 0,H G 0,H G 0,H G 0,H G 0,H G 0,H G 0,H G 0,H G 0,H G 0,H G 0,H G 0,H G 0,H G 0,H G 0,H G 0,H G 0,H G 0,H G 0,H G 0,H G 0,H G 0,H G 0,.bool false,l none 0 0,H G 0,H G 0,H G 0]:Array Value).size=BD.toArray.size:=(show 30=BD.length from N.symm)
 go_enter func81,ntmps81
 go_wp2_with fail
 generalize (w.alloc (.cells #[.bool has,l ba x.length bk,l va d.length vk,l da dec.length dk] 89)).alloc (.cells #[H G 0,H G 0] 42)=W at*;refine(M W (hG.below hB) (Y W hB)).mono ?_;rintro e w1 ⟨rfl,V⟩;replace hB:=hB.trans (V.mono hB.size);replace Rb:=Rb.below V;have Bz:=Blk.new w1 138 #[H G 0,H G 0,H G 0,H G 0,H G 0,H G 0,H G 0,H G 0,H G 0,H G 0,H G 0,H G 0,H G 0,H G 0,H G 0,H G 0,H G 0,H G 0,H G 0,H G 0,H G 0,H G 0,H G 0,H G 0,H G 0,.bool false,l none 0 0,H G 0,H G 0,H G 0];have L:=z0o (hB.alloc hB.size (.cells #[H G 0,H G 0,H G 0,H G 0,H G 0,H G 0,H G 0,H G 0,H G 0,H G 0,H G 0,H G 0,H G 0,H G 0,H G 0,H G 0,H G 0,H G 0,H G 0,H G 0,H G 0,H G 0,H G 0,H G 0,H G 0,.bool false,l none 0 0,H G 0,H G 0,H G 0] 138)) (g:=w1.heap.size) hB.size BD.toArray;have A:Blk ((w1.alloc (.cells #[H G 0,H G 0,H G 0,H G 0,H G 0,H G 0,H G 0,H G 0,H G 0,H G 0,H G 0,H G 0,H G 0,H G 0,H G 0,H G 0,H G 0,H G 0,H G 0,H G 0,H G 0,H G 0,H G 0,H G 0,H G 0,.bool false,l none 0 0,H G 0,H G 0,H G 0] 138)).setRow w1.heap.size BD.toArray) (w.heap.size+1) 42 #[H G 0,H G 0]:=(setRow_other _ _ _ _ (by have:=Rb.lt;omega)).trans (Rb.below ((Below.refl _ _).alloc (Nat.le_refl _) _));have B2:=Bz.row BD.toArray;clear M Y V Rb;by_cases h0:C=0
 ·obtain⟨Z,ad,h4,I⟩:=J.out h0;have HD:Hid (D=if outV dec=3 then 4 else 0):=(z.out.1 h0).1;have HV:Hid (E=if outV dec=3 then 0 else outV dec):=(z.out.1 h0).2;subst h0;have aa:=rng B2 (dec.map iv) (o:=27) (fun j v hv=>by
   obtain⟨hj,rfl⟩:=row_get I hv;rw[List.getElem?_toArray,Z];exact z9v ad h4 I j hj)
  have ab:(f.info? 131).map (·.size)=some (dec.map iv).length:=by rw[Vb,I];exact z18
  clear J z Z
  go_wp2_with (first|(refine z0A (by kernel_rfl) 138 _ _ rfl _ BD.toArray rfl rfl 138 _ Bz U O T ?_)|(refine z7j (by kernel_rfl) 131 _ rfl _ _ rfl (dec.map iv) _ aa Tryz.underlying131 rfl ab ?_))
  clear aa Bz;generalize (w1.alloc (.cells #[H G 0,H G 0,H G 0,H G 0,H G 0,H G 0,H G 0,H G 0,H G 0,H G 0,H G 0,H G 0,H G 0,H G 0,H G 0,H G 0,H G 0,H G 0,H G 0,H G 0,H G 0,H G 0,H G 0,H G 0,H G 0,.bool false,l none 0 0,H G 0,H G 0,H G 0] 138)).setRow w1.heap.size BD.toArray=X at*;go_loopw[18] (fun j wr=>∃m:Nat,m≤3∧j=H G m∧Hid (∀j,j<m→dec.getD j 0=3)∧wr=X) (fun j _=>3-(intOf j).toNat)
  case atStart=>exact⟨0,Nat.zero_le _,rfl,fun j hj=>absurd hj (Nat.not_lt_zero _),rfl⟩
  case round=>
   obtain⟨m,hm,rfl,HA,rfl⟩:=hrel;obtain⟨q0,q1⟩:=A.cel2;obtain⟨f0,f1⟩:=A.frz2;by_cases af:m<3
   ·have ai:(m:Int)<3:=by omega
    have ak:=fun w=>q2q I m af w
    have HY:Hid (dec.getD m 0≠3→outV dec=dec.getD m 0):=fun hx=>q2t dec m HA.out (by omega) hx
    have HN:Hid (dec.getD m 0=3→∀j,j<m+1→dec.getD j 0=3):=fun hx j hj=>by
     by_cases ae:j=m
     ·subst ae;exact hx
     ·exact HA.out j (by omega)
    clear HA;generalize dec.getD m 0=v at*;by_cases hv:v=3
    ·have ah:(v !=3)=false:=by simp[hv]
     have R:=HN.out hv;have HR:Hid _:=R;clear HY HN R hv
     go_wp2
     go_roundw
     case rel=>exact⟨m+1,by omega,by go_num,HR.out,by first|rfl|trivial⟩
     case measure=>simp[intOf];omega
    ·have ah:(v !=3)=true:=by simpa using hv
     have y:=HY.out hv;have E1:Hid (D=0∧E=v):=by
      refine⟨?_,?_⟩
      ·rw[HD.out,y,if_neg hv]
      ·rw[HV.out,y,if_neg hv]
     clear HY HN HD HV y hv
     go_wp2
     exact bodyPost_ret (v:=.agg #[H G 0,H G v]) (by simp[results,results81,go_sem,q0,q1]) rfl ⟨by rw[E1.out.1,E1.out.2],(L.setCell (p:=⟨w.heap.size+1,0,none⟩) (by show w.heap.size≤w.heap.size+1;omega) _).setCell (p:=⟨w.heap.size+1,1,none⟩) (by show w.heap.size≤w.heap.size+1;omega) _⟩
   ·have ag:m=3:=by omega
    subst ag;have y:=z8t dec (by rw[I];exact HA.out);have E1:Hid (D=4∧E=0):=by
     refine⟨?_,?_⟩
     ·rw[HD.out,y,if_pos rfl]
     ·rw[HV.out,y,if_pos rfl]
    clear HA HD HV y
    go_wp2
    exact bodyPost_ret (v:=.agg #[H G 4,H G 0]) (by simp[results,results81,go_sem,q0,q1]) rfl ⟨by rw[E1.out.1,E1.out.2],(L.setCell (p:=⟨w.heap.size+1,0,none⟩) (by show w.heap.size≤w.heap.size+1;omega) _).setCell (p:=⟨w.heap.size+1,1,none⟩) (by show w.heap.size≤w.heap.size+1;omega) _⟩
 ·have E1:Hid (D=C∧E=0):=z.out.2 h0;have aj:(C !=0)=true:=by simpa using h0
  obtain⟨q0,q1⟩:=A.cel2;obtain⟨f0,f1⟩:=A.frz2;clear z J h0 B2 A;generalize hX:(w1.alloc (.cells #[H G 0,H G 0,H G 0,H G 0,H G 0,H G 0,H G 0,H G 0,H G 0,H G 0,H G 0,H G 0,H G 0,H G 0,H G 0,H G 0,H G 0,H G 0,H G 0,H G 0,H G 0,H G 0,H G 0,H G 0,H G 0,.bool false,l none 0 0,H G 0,H G 0,H G 0] 138)).setRow w1.heap.size BD.toArray=X at q0 q1 f0 f1 L
  go_wp2_with (refine z0A (by kernel_rfl) 138 _ _ rfl _ BD.toArray rfl rfl 138 _ Bz U O T ?_)
  exact bodyPost_ret (v:=.agg #[H G C,H G 0]) (by simp[results,results81,go_sem,q0,q1]) rfl ⟨by rw[E1.out.1,E1.out.2],(L.setCell (p:=⟨w.heap.size+1,0,none⟩) (by show w.heap.size≤w.heap.size+1;omega) _).setCell (p:=⟨w.heap.size+1,1,none⟩) (by show w.heap.size≤w.heap.size+1;omega) _⟩
theorem z2n(b o:Nat)(p:InstQ)(w:World)(hP:InstP w b o p)(hl:p.n≤1048576):
  Calls f 70 #[.pointer (some ⟨b,o,none⟩)] w fun e w'=>e=.returned (H G (outV p.dec))∧w'=w:=by
 obtain⟨has,vb,batch,vr,rounds,vd,dec⟩:=p;have hD:intK.At w vd dec:=hP.dec;obtain⟨da,dk,rfl⟩:=hD.shape;have hRow:=(z0P hD).2;obtain⟨c0,c1,c2,c3⟩:=hP.box;dsimp only[InstQ.n]at c0 c1 c2 c3 hl⊢;generalize hE:outV dec=E;have HE:Hid (outV dec=E):=hE;clear hE;go_enter func70,ntmps70
 go_wp2
 go_loop[3] (fun j=>∃k:Nat,k≤dec.length∧j=H G k∧Hid (∀j,j<k→dec.getD j 0=3)) (fun j=>dec.length-(intOf j).toNat)
 case atStart=>exact⟨0,Nat.zero_le _,rfl,fun j hj=>absurd hj (Nat.not_lt_zero _)⟩
 case round=>
  obtain⟨k,hk,rfl,HA⟩:=hrel;by_cases hlt:k<dec.length
  ·obtain⟨bb,off,rfl,hbs,hc⟩:=hRow k hlt;have HY:Hid (dec.getD k 0≠3→E=dec.getD k 0):=fun hx=>by rw[←HE.out];exact q2t dec k HA.out hlt hx
   have HN:Hid (dec.getD k 0=3→∀j,j<k+1→dec.getD j 0=3):=fun hx j hj=>by
    by_cases hjm:j=k
    ·subst hjm;exact hx
    ·exact HA.out j (by omega)
   clear HA;generalize dec.getD k 0=v at*;by_cases hv:v=3
   ·have hv':(v !=3)=false:=by simp[hv]
    have R:=HN.out hv;have HR:Hid _:=R;clear HY HN R hv
    go_wp2
    go_round
    case rel=>exact⟨k+1,by omega,by go_num,HR.out⟩
    case measure=>simp[intOf];omega
   ·have hv':(v !=3)=true:=by simpa using hv
    have E1:Hid (E=v):=HY.out hv;clear HY HN hv
    go_wp2
    go_ret;exact⟨by rw[E1.out];rfl,rfl⟩
  ·have hkl:k=dec.length:=by omega
   subst hkl;have E1:Hid (E=3):=by rw[←HE.out];exact z8t dec HA.out
   clear HA HE
   go_wp2
   go_ret;exact⟨by rw[E1.out];rfl,rfl⟩
section
variable {P:Type} {K:Kind P} {w w':World} {v v':Value} {ps:List P} {p:P} {B:Nat}
theorem Kind.row_snoc(ps:List P)(p:P):K.row (ps++[p])=K.row ps++K.cells p:=by simp[Kind.row]
theorem Kind.Own.snoc(h:K.Own w v ps)(L:(K.fp v ps).Nodup)(C:∀k∈K.fp v ps,B≤k)(hp:K.own w p)(M:(K.foot p).Nodup)(z:∀k∈K.foot p,k∉K.fp v ps)(D:∀k∈K.foot p,B≤k)(hB:B≤w.heap.size)
  (I:w'.ownsRow 0 K.ty K.size v' (ps.length+1) (K.row ps++K.cells p)) (hg:w.grownBy w' v.ownBlock) (c:v'.ownBlock=v.ownBlock∨v'.ownBlock=some w.heap.size):
  K.Own w' v' (ps++[p])∧(K.fp v' (ps++[p])).Nodup∧(∀k∈K.fp v' (ps++[p]),B≤k)∧Out (blk v) w w':=by
 have hO:Out (blk v) w w':=Out.of_grown hg;have d:=List.nodup_append.1 L;have J:=h.lt;have E:=K.own_lt hp;have A:(ps++[p]).flatMap K.foot=ps.flatMap K.foot++K.foot p:=by simp
 refine⟨⟨?_,?_⟩,?_,?_,hO⟩
 ·rw[List.length_append,List.length_singleton,Kind.row_snoc];exact I
 ·intro q hq;rcases List.mem_append.1 hq with hq|hq
  ·exact K.own_out (h.2 q hq) hO (fun k hk y=>d.2.2 k y k (List.mem_flatMap.2 ⟨q,hq,hk⟩) rfl)
  ·simp only[Vc]at hq;subst hq;exact K.own_out hp hO (fun k hk y=>z k hk (by simp only[Kind.fp,List.mem_append];exact Or.inl y))
 ·unfold Kind.fp;rw[A];have x:(ps.flatMap K.foot++K.foot p).Nodup:=List.nodup_append.2 ⟨d.2.1,M,fun a ha b hb e=>z b hb (by simp only[Kind.fp,List.mem_append];exact Or.inr (e▸ha))⟩;rcases c with c|c
  ·have e:blk v'=blk v:=by unfold blk;rw[c]
   rw[e];refine List.nodup_append.2 ⟨d.1,x,fun a ha b hb e=>?_⟩;subst e;rcases List.mem_append.1 hb with hb|hb
   ·exact d.2.2 a ha a hb rfl
   ·exact z a hb (by simp only[Kind.fp,List.mem_append];exact Or.inl ha)
  ·have e:blk v'=[w.heap.size]:=by unfold blk;rw[c];rfl
   rw[e];refine List.nodup_append.2 ⟨by simp,x,fun a ha b hb e=>?_⟩;simp only[Vc]at ha;subst e ha;rcases List.mem_append.1 hb with hb|hb
   ·have:=J _ (show w.heap.size∈K.fp v ps by simp only[Kind.fp,List.mem_append];exact Or.inr hb);omega
   ·have:=E _ hb;omega
 ·intro k hk;unfold Kind.fp at hk;rw[A]at hk;rcases List.mem_append.1 hk with hk|hk
  ·rcases c with c|c
   ·exact C k (by simp only[Kind.fp,List.mem_append];left;unfold blk at hk⊢;rw[c]at hk;exact hk)
   ·unfold blk at hk;rw[c]at hk;simp only[Option.toList,Vc]at hk;omega
  ·rcases List.mem_append.1 hk with hk|hk
   ·exact C k (by simp only[Kind.fp,List.mem_append];exact Or.inr hk)
   ·exact D k hk
theorem Kind.own_nil(w:World):K.Own w (l none 0 0) ([]:List P)∧(K.fp (l none 0 0) ([]:List P))=[]:=⟨⟨World.ownsRow_nil _ _ _ _,fun p hp=>by simp at hp⟩,by simp[Kind.fp,blk,Value.ownBlock]⟩
end
theorem z1q(v:Value)(ps:List TxnQ)(w:World)(h:txnK.At w v ps)(ax:∀p∈ps,0<p.acts.length)(hl:ps.length+nmL TxnQ.n ps≤1048576):
  Calls f 86 #[v] w fun e w'=>∃v' qs,e=.returned v'∧qs.map TxnQ.e=ps.map TxnQ.e∧txnK.Own w' v' qs∧(txnK.fp v' qs).Nodup∧(∀k∈txnK.fp v' qs,w.heap.size≤k)∧Below w.heap.size w w':=by
 obtain⟨a,cap,rfl⟩:=h.shape;obtain⟨i0,hi,aB,aC,aD⟩:=info_parts z1y;obtain⟨ai,aj⟩:=Kind.own_nil (K:=txnK) w;have X:Hid ((txnK.fp (l none 0 0) ([]:List TxnQ)).Nodup∧∀k∈txnK.fp (l none 0 0) ([]:List TxnQ),w.heap.size≤k):=by
  rw[aj];exact⟨by simp,by simp⟩
 clear aj;go_enter func86,ntmps86
 go_wp2
 go_loopw[3,8] (fun v j wr=>∃ (k:Nat) (qs:List TxnQ),k≤ps.length∧j=H G k∧Hid (qs.map TxnQ.e=(ps.take k).map TxnQ.e)∧txnK.Own wr v qs∧Hid ((txnK.fp v qs).Nodup∧∀k∈txnK.fp v qs,w.heap.size≤k)∧Below w.heap.size w wr) (fun _ j _=>ps.length-(intOf j).toNat)
 case atStart=>exact⟨0,[],Nat.zero_le _,rfl,(rfl:_=_),ai,X,Below.refl _ _⟩
 case round=>
  clear X ai;obtain⟨k,qs,hk,rfl,HE,hO,HN,hb⟩:=hrel;obtain⟨sa,sc,rfl⟩:=hO.shape;have ad:Hid (qs.length=k):=by
   have:=congrArg List.length HE.out;rw[Vb,Vb,List.length_take]at this;show qs.length=k;omega
  by_cases M:k<ps.length
  ·obtain⟨b,aE,rfl,aG,hc,d⟩:=(h.below hb).cell (by decide) k M;have A:∀j x,(txnK.cells ps[k])[j]?=some x→wr.cell? ⟨b,aE+k*4+j,none⟩=some x:=hc;have c0:=A 0 (H G ps[k].i) rfl;have c1:=A 1 (H G ps[k].s) rfl;have c2:=A 2 (H G ps[k].q) rfl;have c3:=A 3 (ps[k].va) rfl;have V:=z01 TxnQ.n ps k M;have D:=ax _ (List.getElem_mem M);have Z:Hid (∀p':TxnQ,p'.e=TxnQ.e ps[k]→(qs++[p']).map TxnQ.e=(ps.take (k+1)).map TxnQ.e):=fun p' ay=>by
    rw[List.take_succ_eq_append_getElem M,List.map_append,List.map_append,HE.out,List.map_singleton,List.map_singleton,ay]
   clear hc A;generalize ps[k]=p at*;obtain⟨i,s,q,va,c⟩:=p;replace d:actK.At wr va c:=d;replace V:c.length≤nmL TxnQ.n ps:=V;obtain⟨aa,ac,rfl⟩:=d.shape;dsimp only at c0 c1 c2 c3 D;obtain⟨ab,ao,au⟩:∃ab ao,aa=some ⟨ab,ao,none⟩:=by
    rcases(z0Z d).2 with h0|⟨ab,ao,e,_⟩
    ·have:=z0s c;rw[h0]at this;simp at this;omega
    ·exact⟨ab,ao,e⟩
   subst au;have L:Below wr.heap.size wr (wr.alloc (.cells #[H G i,H G s,H G q,l (some ⟨ab,ao,none⟩) c.length ac] 158)):=by go_grown
   have ag:=z2H i s q ab ao ac c _ ((z0Z d).2.below L) D (by omega);rw[Nat.add_zero]at c0;replace hO:=hO.below L;replace hb:=hb.trans (L.mono hb.size);clear HE L
   go_wp2_with fail
   clear c0 c1 c2 c3;generalize wr.alloc (.cells #[H G i,H G s,H G q,l (some ⟨ab,ao,none⟩) c.length ac] 158)=Y at*;have aF:w.heap.size≤Y.heap.size:=hb.size;refine ag.mono ?_;rintro e w2 ⟨a2,c2,rfl,am,I⟩;have W:=hO.lt;replace hO:=hO.below I;replace hb:=hb.trans (I.mono hb.size);obtain⟨o2,ah⟩:=z0y am;have hP:txnK.own w2 ⟨i,s,q,l a2 c.length c2,c⟩:=⟨o2,fun _ _=>trivial⟩
   have y:∀x∈txnK.foot ⟨i,s,q,l a2 c.length c2,c⟩,Y.heap.size≤x:=fun x hx=>ah x (by rw[←z1a (l a2 c.length c2) c];exact hx)
   have af:(txnK.foot ⟨i,s,q,l a2 c.length c2,c⟩).Nodup:=by
    show(actK.fp _ _).Nodup;rw[z1a];exact z0t _
   have z:Below w2.heap.size w2 (w2.alloc (.cells #[H G i,H G s,H G q,l a2 c.length c2] 158)):=by go_grown
   have T:=hO.below z;have ae:=txnK.own_out (F:=[]) hP (Out.of_below z) (fun _ _=>by simp);have J:=hb.trans (z.mono hb.size);clear ag am hO hP ah;have E:=T.1
   go_wp2_with (at_builtin;refine wpList_append_own_at _ rfl _ _ 52 rfl 0 158 i0 (.agg #[H G 0,H G 0,H G 0,l none 0 0]) 4 48 Tryz.underlying52 hi aB aC aD rfl (by decide) _ qs.length (txnK.row qs) rfl E ⟨w2.heap.size,0,none⟩ 1 1 [H G i,H G s,H G q,l a2 c.length c2] rfl rfl ?c1 ?c2 ?c3 ?c4 ?c5 ?_)
   all_goals try(case c1=>intro j u hj;match j,hj with|0,hj=>simp at hj;subst hj;simp[Addr.add]|1,hj=>simp at hj;subst hj;simp[Addr.add]|2,hj=>simp at hj;subst hj;simp[Addr.add]|3,hj=>simp at hj;subst hj;simp[Addr.add])
   all_goals try(case c2=>intro u hu;simp at hu;rcases hu with rfl|rfl|rfl|rfl<;>rfl)
   all_goals try(case c3=>have:=ad.out;unfold maxLen;omega)
   all_goals try(case c4=>have:=ad.out;omega)
   all_goals try(case c5=>first|omega|simp)
   intro v' w5 O C al U;clear al E;rw[show w2.heap.size+1=(w2.alloc (.cells #[H G i,H G s,H G q,l a2 c.length c2] 158)).heap.size from(World.size_alloc _ _).symm]at U;generalize az:w2.alloc (.cells #[H G i,H G s,H G q,l a2 c.length c2] 158)=WA at*;clear az;have aH:Y.heap.size≤WA.heap.size:=by have:=I.size;have:=z.size;omega
   obtain⟨ar,ak,N,an⟩:=T.snoc HN.out.1 HN.out.2 ae af (fun x hx aA=>by have:=W x aA;have:=y x hx;omega) (fun x hx=>by have:=y x hx;omega) J.size O C U;have av:Below w.heap.size w w5:=Out.keep J an J.size (fun x hx=>HN.out.2 x (by simp only[Kind.fp,List.mem_append];exact Or.inl hx));have ap:Hid ((qs++[(⟨i,s,q,l a2 c.length c2,c⟩:TxnQ)]).map TxnQ.e=(ps.take (k+1)).map TxnQ.e):=Z.out _ rfl;have aq:Hid ((txnK.fp v' (qs++[(⟨i,s,q,l a2 c.length c2,c⟩:TxnQ)])).Nodup∧∀k∈txnK.fp v' (qs++[(⟨i,s,q,l a2 c.length c2,c⟩:TxnQ)]),w.heap.size≤k):=⟨ak,N⟩
   clear Z HN W y af ae T J O C U an ak N d hb z I V D
   go_wp2
   go_roundw
   case rel=>exact⟨k+1,_,by omega,by go_num,ap,ar,aq,av⟩
   case measure=>simp[intOf];omega
  ·have aw:k=ps.length:=by omega
   subst aw;have hE:=HE.out;rw[List.take_length]at hE;clear HE
   go_wp2
   go_ret;exact⟨_,qs,rfl,hE,hO,HN.out.1,HN.out.2,hb⟩
theorem q0k{F:List Nat}{w:World}{b o:Nat}(L:List Value)(ty:TypeId)(d:TypeDesc)(hr:w.rangeAt b o L)(hF:b∉F)(hu:f.underlying ty=some d)(hd:d.isRow=true)(hi:(f.info? ty).map (·.size)=some L.length):
  ∀u:LatO F w,(Instr.loadAt ty (.pointer (some ⟨b,o,none⟩))).run f u.val=.ok (.agg L.toArray) u.val:=fun u=>
 run_loadAt_mid u.val b o ty L d (fun j v hv=>z0l (hr j v hv) hF u) hu hd hi
theorem z0L(v:Value)(zs:List Int):(intK.fp v zs).Nodup:=by
 rw[z3z];exact z0t v
theorem z7l(rs:List RoundE)(w:World)(h:Wel rs)(h4:rs.length≤4):
  Calls f 148 #[.agg (rndC rs).toArray] w fun e w'=>∃v qs,e=.returned v∧qs.map RoundQ.e=rs∧roundK.Own w' v qs∧(roundK.fp v qs).Nodup∧(∀k∈roundK.fp v qs,w.heap.size≤k)∧Below w.heap.size w w':=by
 have B:=Blk.new w 136 (rndC rs).toArray;have ae:Below w.heap.size w (w.alloc (.cells (rndC rs).toArray 136)):=by go_grown
 have hc:=z9s rs;have aG:(rs.length:Int)≤4:=by omega
 obtain⟨i0,hi,aC,aD,aE⟩:=info_parts z3P;have ar:Hid (∀r,r<rs.length→∀j v,(z1e (rs.getD r z0I))[j]?=some v→(rndC rs)[1+r*6+j]?=some v):=fun r hr j v hv=>by
  have hj:=(List.getElem?_eq_some_iff.1 hv).1;rw[z00 (z2J h r hr)]at hj;rw[q0g h r hr j hj];exact hv
 generalize rndC rs=ds at*;go_enter func148,ntmps148
 go_wp2
 clear hc;generalize w.alloc (.cells ds.toArray 136)=W at*;obtain⟨al,am⟩:=Kind.own_nil (K:=roundK) W;have ag:Hid ((roundK.fp (l none 0 0) ([]:List RoundQ)).Nodup∧∀k∈roundK.fp (l none 0 0) ([]:List RoundQ),W.heap.size≤k):=by
  rw[am];exact⟨by simp,by simp⟩
 clear am;go_loopw[3,11] (fun v j wr=>∃ (k:Nat) (qs:List RoundQ),k≤rs.length∧j=H G k∧Hid (qs.map RoundQ.e=rs.take k)∧roundK.Own wr v qs∧Hid ((roundK.fp v qs).Nodup∧∀k∈roundK.fp v qs,W.heap.size≤k)∧Below W.heap.size W wr) (fun _ j _=>rs.length-(intOf j).toNat)
 case atStart=>exact⟨0,[],Nat.zero_le _,rfl,(rfl:_=_),al,ag,Below.refl _ _⟩
 case round=>
  clear ag al;obtain⟨k,qs,hk,rfl,HE,hO,HN,hb⟩:=hrel;obtain⟨sa,sc,rfl⟩:=hO.shape;by_cases L:k<rs.length
  ·have aA:=z2J h k L;have ai:Hid (qs.length≤4):=by
    have:=congrArg List.length HE.out;rw[Vb,List.length_take]at this;show qs.length≤4;omega
   have ah:Hid (∀p':RoundQ,p'.e=rs.getD k z0I→(qs++[p']).map RoundQ.e=rs.take (k+1)):=fun p' ay=>by
    rw[List.take_succ_eq_append_getElem L,List.map_append,HE.out,List.map_singleton,ay];simp[Va,L]
   have X:=rng (B.below hb) (z1e (rs.getD k z0I)) (o:=1+k*6) (fun j v hv=>by rw[List.getElem?_toArray];exact ar.out k L j v hv);clear HE;generalize rs.getD k z0I=q at*;obtain⟨qr,qp⟩:=q;obtain⟨l1,l2⟩:qr.length=3∧qp.length=3:=aA;obtain⟨x0,x1,x2,rfl⟩:=z7Z l1;obtain⟨y0,y1,y2,rfl⟩:=z7Z l2;clear l1 l2;have C:(f.info? 133).map (·.size)=some (z1e ⟨[x0,x1,x2],[y0,y1,y2]⟩).length:=z9w;have D:(f.info? 133).map (·.size)=some (z1e ⟨[x0,x1,x2],[y0,y1,y2]⟩).toArray.size:=C;have aa:=Blk.new wr 133 #[H G 0,H G 0,H G 0,H G 0,H G 0,H G 0];have E:=aa.row (z1e ⟨[x0,x1,x2],[y0,y1,y2]⟩).toArray;have I:Below W.heap.size W ((wr.alloc (.cells #[H G 0,H G 0,H G 0,H G 0,H G 0,H G 0] 133)).setRow wr.heap.size (z1e ⟨[x0,x1,x2],[y0,y1,y2]⟩).toArray):=z0o (hb.alloc hb.size _) hb.size _;have M:Below wr.heap.size wr ((wr.alloc (.cells #[H G 0,H G 0,H G 0,H G 0,H G 0,H G 0] 133)).setRow wr.heap.size (z1e ⟨[x0,x1,x2],[y0,y1,y2]⟩).toArray):=z0o ((Below.refl _ _).alloc (Nat.le_refl _) _) (Nat.le_refl _) _;have T:(#[H G 0,H G 0,H G 0,H G 0,H G 0,H G 0]:Array Value).size=(z1e ⟨[x0,x1,x2],[y0,y1,y2]⟩).toArray.size:=rfl;have U:(z1e ⟨[x0,x1,x2],[y0,y1,y2]⟩).toArray.all (·.oneCell')=true:=q2n _;have HF:Hid (∀x∈roundK.fp (l sa qs.length sc) qs,x<wr.heap.size):=hO.lt;replace hO:=hO.below M
   go_wp2_with (first|(refine z7j (by kernel_rfl) 133 _ rfl _ _ rfl (z1e ⟨[x0,x1,x2],[y0,y1,y2]⟩) _ X Tryz.underlying133 rfl C ?_)|(refine z0A (by kernel_rfl) 133 _ _ rfl _ (z1e ⟨[x0,x1,x2],[y0,y1,y2]⟩).toArray rfl rfl 133 _ aa D T U ?_))
   clear X C D T U aa M;generalize (wr.alloc (.cells #[H G 0,H G 0,H G 0,H G 0,H G 0,H G 0] 133)).setRow wr.heap.size (z1e ⟨[x0,x1,x2],[y0,y1,y2]⟩).toArray=W3 at*;have hF:wr.heap.size∉blk (l sa qs.length sc):=fun hx=>by
    have:=HF.out _ (by simp only[Kind.fp,List.mem_append];exact Or.inl hx);omega
   have p0:=q0k (F:=blk (l sa qs.length sc)) ([x0,x1,x2].map iv) 131 _ (rng E ([x0,x1,x2].map iv) (o:=0) (fun j v hv=>by match j,hv with|0,hv=>exact hv|1,hv=>exact hv|2,hv=>exact hv)) hF Tryz.underlying131 rfl z18;have p1:=q0k (F:=blk (l sa qs.length sc)) ([y0,y1,y2].map iv) 131 _ (rng E ([y0,y1,y2].map iv) (o:=3) (fun j v hv=>by match j,hv with|0,hv=>exact hv|1,hv=>exact hv|2,hv=>exact hv)) hF Tryz.underlying131 rfl z18;have ax:Nonempty (LatO (blk (l sa qs.length sc)) W3):=⟨⟨W3,Out.refl _ _⟩⟩
   have hW:Below W3.heap.size W3 W3.drew:=(Below.refl _ _).drew;have d:∀w',Below W3.heap.size W3 w'→∃u:LatO (blk (l sa qs.length sc)) W3,w'=u.val:=fun w' az=>⟨⟨w',Out.of_below az⟩,rfl⟩
   simp only[Vd];refine z0d (S:=fun w'=>∃u:LatO (blk (l sa qs.length sc)) W3,w'=u.val) (by kernel_rfl) ?_;refine sgr [(0,2),(4,1)] 8 (by kernel_rfl) (d _ hW) ?_;simp only[pkE];repeat go_big_quiet_step (fail)
   refine wpQuiet_nil ?_;refine qta 2 (some 17) (.agg ([x0,x1,x2].map iv).toArray) 7 (by kernel_rfl) (fun u hu=>?_) (d _ hW) ?_
   ·obtain⟨u,rfl⟩:=hu;show some (((Instr.loadAt 131 (.pointer (some ⟨wr.heap.size,0,none⟩)))>>=fun x=>pure (Next.value x):Sem Next).run f u.val)=_;rw[Sem.run_bind,p0 u];rfl
   simp only[Vd,pjE];refine qta 5 (some 20) (.agg ([y0,y1,y2].map iv).toArray) 6 (by kernel_rfl) (fun u hu=>?_) (d _ hW) ?_
   ·obtain⟨u,rfl⟩:=hu;show some (((Instr.loadAt 131 (.pointer (some ⟨wr.heap.size,3,none⟩)))>>=fun x=>pure (Next.value x):Sem Next).run f u.val)=_;rw[Sem.run_bind,p1 u];rfl
   simp only[Vd,pjE];refine cla 3 (some 18) 149 #[.agg ([x0,x1,x2].map iv).toArray] 5 (by kernel_rfl) ?_;refine(z2m [x0,x1,x2] _ rfl).mono ?_;rintro e w8 ⟨a1,c1,rfl,o1,g1,_,ak⟩;have L1:∀x∈intK.fp (l a1 3 c1) [x0,x1,x2],W3.heap.size≤x:=fun x hx=>by have:=g1 x hx;have:=hW.size;omega
   have M1:=o1.lt;replace hW:=hW.trans (ak.mono hW.size);clear ak g1;refine⟨_,rfl,d _ hW,?_⟩;simp only[Vd,pjE];refine cla 6 (some 21) 149 #[.agg ([y0,y1,y2].map iv).toArray] 4 (by kernel_rfl) ?_;refine(z2m [y0,y1,y2] _ rfl).mono ?_;rintro e w9 ⟨a2,c2,rfl,o2,g2,_,c⟩;have L2:∀x∈intK.fp (l a2 3 c2) [y0,y1,y2],W3.heap.size≤x:=fun x hx=>by have:=g2 x hx;have:=hW.size;omega
   have N:∀x∈intK.fp (l a1 3 c1) [x0,x1,x2],∀y∈intK.fp (l a2 3 c2) [y0,y1,y2],x≠y:=fun x hx y hy e=>by have:=M1 x hx;have:=g2 y hy;omega
   replace hW:=hW.trans (c.mono hW.size);replace o1:=o1.below c;clear c g2 M1;refine⟨_,rfl,d _ hW,?_⟩;simp only[Vd,pjE];refine qta 7 (some 22) (.agg #[l a1 3 c1,l a2 3 c2]) 3 (by kernel_rfl) (fun u _=>by kernel_rfl) (d _ hW) ?_;simp only[Vd,pjE];refine ona 8 2 rfl (by kernel_rfl) ?_;have J:Below w9.heap.size w9 (w9.alloc (.cells #[l a1 3 c1,l a2 3 c2] 171)):=by go_grown
   replace hW:=hW.trans (J.mono hW.size);replace o1:=o1.below J;replace o2:=o2.below J;have Y:∀j u,[Value.slice a1 3 c1,l a2 3 c2][j]?=some u→(w9.alloc (.cells #[l a1 3 c1,l a2 3 c2] 171)).cell? ((⟨w9.heap.size,0,none⟩:Addr).add j)=some u:=by
    intro j u hj;match j,hj with|0,hj=>simp at hj;subst hj;simp[Addr.add]|1,hj=>simp at hj;subst hj;simp[Addr.add]
   go_wp2
   refine ThenGo.to ⟨d _ hW,?_⟩;generalize w9.alloc (.cells #[l a1 3 c1,l a2 3 c2] 171)=Z at*;clear J;have ab:=hO.below hW;have c:=I.trans (hW.mono I.size);have A:=ab.1;refine ona 9 1 rfl (by kernel_rfl) ?_;refine wpList_append_own_at _ rfl _ _ 87 rfl 0 171 i0 (.agg #[l none 0 0,l none 0 0]) 2 48 Tryz.underlying87 hi aC aD aE rfl (by decide) _ qs.length (roundK.row qs) rfl A ⟨w9.heap.size,0,none⟩ 1 1 [l a1 3 c1,l a2 3 c2] rfl rfl Y ?c2 ?c3 ?c4 ?c5 ?_
   case c2=>intro u hu;simp at hu;rcases hu with rfl|rfl<;>rfl
   case c3=>have:=ai.out;unfold maxLen;omega
   case c4=>have:=ai.out;omega
   case c5=>omega
   intro v' w5 V z ao aj;clear ao A Y;have aF:wr.heap.size≤W3.heap.size:=by have:=E.lt;omega
   obtain ⟨au,an,O,af⟩:=ab.snoc (p:=⟨l a1 3 c1,[x0,x1,x2],l a2 3 c2,[y0,y1,y2]⟩) HN.out.1 HN.out.2 ⟨o1,o2⟩ (List.nodup_append.2 ⟨z0L _ _,z0L _ _,N⟩) (fun x hx aB => by
    have:=HF.out x aB;rcases List.mem_append.1 hx with hx|hx
    ·have:=L1 x hx;omega
    ·have:=L2 x hx;omega) (fun x hx=>by
    have:=I.size;rcases List.mem_append.1 hx with hx|hx
    ·have:=L1 x hx;omega
    ·have:=L2 x hx;omega) c.size V z aj
   have av:Below W.heap.size W w5:=Out.keep c af c.size (fun x hx=>HN.out.2 x (by simp only[Kind.fp,List.mem_append];exact Or.inl hx));have ad:Out (blk (l sa qs.length sc)) W3 w5:=(Out.of_below hW).trans af;have ap:Hid ((qs++[(⟨l a1 3 c1,[x0,x1,x2],l a2 3 c2,[y0,y1,y2]⟩:RoundQ)]).map RoundQ.e=rs.take (k+1)):=ah.out _ rfl;have aq:Hid ((roundK.fp v' (qs++[(⟨l a1 3 c1,[x0,x1,x2],l a2 3 c2,[y0,y1,y2]⟩:RoundQ)])).Nodup∧∀k∈roundK.fp v' (qs++[(⟨l a1 3 c1,[x0,x1,x2],l a2 3 c2,[y0,y1,y2]⟩:RoundQ)]),W.heap.size≤k):=⟨an,O⟩
   clear an O af ah HN HF o1 o2 L1 L2 N V z aj ab hO c I
   go_wp2
   refine ThenGo.to ⟨⟨⟨_,ad⟩,rfl⟩,?_⟩;simp only[Vd,pgE,pjE];refine sgr [(10,1)] 0 (by kernel_rfl) ⟨⟨_,ad⟩,rfl⟩ ?_;simp only[pkE];repeat go_big_quiet_step (fail)
   refine wpQuiet_nil ?_;refine z0h (by kernel_rfl) ?_;clear p0 p1 ax hW ad d E hF
   go_wp2
   go_roundw
   case rel=>exact⟨k+1,_,by omega,by go_num,ap,au,aq,av⟩
   case measure=>simp[intOf];omega
  ·have aw:k=rs.length:=by omega
   subst aw;have hE:=HE.out;rw[List.take_length]at hE;clear HE;have aH:=ae.size
   go_wp2
   go_ret;exact⟨_,qs,rfl,hE,hO,HN.out.1,fun x hx=>by have:=HN.out.2 x hx;omega,ae.trans (hb.mono ae.size)⟩
theorem z0x(w:World)(g:Nat)(cs:Array Value):Out [g] w (w.setRow g cs):=
 ⟨rfl,rfl,rfl,by rw[setRow_size];exact Nat.le_refl _,fun k _ hn=>setRow_other w g k cs (by simpa using hn)⟩
theorem z5C:(f.info? 89).map (·.size)=some 4:=by kernel_rfl
theorem z8u(has:Bool)(vb:Value)(bt:List TxnQ)(rs:List RoundE)(dec:List Int)(w:World)(hT:txnK.At w vb bt)(aa:∀p∈bt,0<p.acts.length)(hl:bt.length+nmL TxnQ.n bt≤1048576)(c:Wel rs)(h4:rs.length≤4)(h3:dec.length=3):
  Calls f 99 #[.agg (brdC has vb rs dec).toArray] w fun e w'=>∃q:InstQ,e=.returned (.agg #[.bool q.has,q.vb,q.vr,q.vd])∧q.e=⟨has,bt.map TxnQ.e,rs,dec⟩∧instK.own w' q∧(instK.foot q).Nodup∧(∀k∈instK.foot q,w.heap.size≤k)∧Below w.heap.size w w':=by
 have B:=Blk.new w 138 (brdC has vb rs dec).toArray;have J:=fun w (hT:txnK.At w vb bt)=>z1q vb bt w hT aa hl
 have L:=fun w=>z7l rs w c h4
 have M:=fun w=>z2m dec w h3
 have T:(f.info? 136).map (·.size)=some (rndC rs).length:=by rw[z0u c h4];exact z2K
 have O:(f.info? 131).map (·.size)=some (dec.map iv).length:=by rw[Vb,h3];exact z18
 have d:Hid ((brdC has vb rs dec)[25]?=some (.bool has)∧(brdC has vb rs dec)[26]?=some vb∧(∀j v,(rndC rs)[j]?=some v→(brdC has vb rs dec)[0+j]?=some v)∧∀j v,(dec.map iv)[j]?=some v→(brdC has vb rs dec)[27+j]?=some v):=by
  refine⟨q2i c h4,q5h c h4,fun j v hv=>?_,fun j v hv=>?_⟩
  ·have hj:=(List.getElem?_eq_some_iff.1 hv).1;rw[z0u c h4]at hj;rw[Nat.zero_add,z5z c h4 j hj];exact hv
  ·obtain⟨hj,rfl⟩:=row_get h3 hv;exact z9v c h4 h3 j hj
 generalize brdC has vb rs dec=ds at*;have C:Below w.heap.size w ((w.alloc (.cells ds.toArray 138)).alloc (.cells #[.bool false,l none 0 0,l none 0 0,l none 0 0] 89)):=by go_grown
 have I:Below (w.alloc (.cells ds.toArray 138)).heap.size (w.alloc (.cells ds.toArray 138)) ((w.alloc (.cells ds.toArray 138)).alloc (.cells #[.bool false,l none 0 0,l none 0 0,l none 0 0] 89)):=by go_grown
 have R:=Blk.new (w.alloc (.cells ds.toArray 138)) 89 #[.bool false,l none 0 0,l none 0 0,l none 0 0];rw[World.size_alloc]at R;replace B:=B.below I;clear I;go_enter func99,ntmps99
 go_wp2_with fail
 have ah:w.heap.size+2≤((w.alloc (.cells ds.toArray 138)).alloc (.cells #[.bool false,l none 0 0,l none 0 0,l none 0 0] 89)).heap.size:=by simp
 generalize ((w.alloc (.cells ds.toArray 138)).alloc (.cells #[.bool false,l none 0 0,l none 0 0,l none 0 0] 89))=W at*;have hF:w.heap.size∉[w.heap.size+1]:=by simp
 have p0:=z0l (F:=[w.heap.size+1]) (B.cell 25 (.bool has) (by rw[List.getElem?_toArray];exact d.out.1)) hF;have p1:=z0l (F:=[w.heap.size+1]) (B.cell 26 vb (by rw[List.getElem?_toArray];exact d.out.2.1)) hF;have p2:=q0k (F:=[w.heap.size+1]) (rndC rs) 136 _ (rng B (rndC rs) (o:=0) (fun j v hv=>by rw[List.getElem?_toArray];exact d.out.2.2.1 j v hv)) hF Tryz.underlying136 rfl T;have p3:=q0k (F:=[w.heap.size+1]) (dec.map iv) 131 _ (rng B (dec.map iv) (o:=27) (fun j v hv=>by rw[List.getElem?_toArray];exact d.out.2.2.2 j v hv)) hF Tryz.underlying131 rfl O;obtain⟨ba,bk,rfl⟩:=hT.shape;clear T O d;generalize rndC rs=dr at*;have ab:Nonempty (LatO [w.heap.size+1] W):=⟨⟨W,Out.refl _ _⟩⟩
 have hW:Below W.heap.size W W.drew:=(Below.refl _ _).drew;have z:∀w',Below W.heap.size W w'→∃u:LatO [w.heap.size+1] W,w'=u.val:=fun w' ad=>⟨⟨w',Out.of_below ad⟩,rfl⟩
 refine z0d (S:=fun w'=>∃u:LatO [w.heap.size+1] W,w'=u.val) (by kernel_rfl) ?_;refine sgr [(0,4),(5,1),(8,1)] 7 (by kernel_rfl) (z _ hW) ?_;simp only[pkE];repeat go_big_quiet_step (fail)
 refine wpQuiet_nil ?_;refine qta 6 (some 9) (.agg dr.toArray) 6 (by kernel_rfl) (fun u hu=>?_) (z _ hW) ?_
 ·obtain⟨u,rfl⟩:=hu;show some (((Instr.loadAt 136 (.pointer (some ⟨w.heap.size,0,none⟩)))>>=fun x=>pure (Next.value x):Sem Next).run f u.val)=_;rw[Sem.run_bind,p2 u];rfl
 simp only[Vd,pjE];refine qta 9 (some 12) (.agg (dec.map iv).toArray) 5 (by kernel_rfl) (fun u hu=>?_) (z _ hW) ?_
 ·obtain⟨u,rfl⟩:=hu;show some (((Instr.loadAt 131 (.pointer (some ⟨w.heap.size,27,none⟩)))>>=fun x=>pure (Next.value x):Sem Next).run f u.val)=_;rw[Sem.run_bind,p3 u];rfl
 simp only[Vd,pjE];refine cla 4 (some 7) 86 #[l ba bt.length bk] 4 (by kernel_rfl) ?_;refine(J _ (hT.below (C.trans (hW.mono C.size)))).mono ?_;rintro e w1 ⟨v1,q1,rfl,e1,o1,n1,g1,hb⟩;have L1:∀x∈txnK.fp v1 q1,W.heap.size≤x:=fun x hx=>by have:=g1 x hx;have:=hW.size;omega
 have M1:=o1.lt;replace hW:=hW.trans (hb.mono hW.size);clear hb g1;refine⟨_,rfl,z _ hW,?_⟩;simp only[Vd,pjE];refine cla 7 (some 10) 148 #[.agg dr.toArray] 3 (by kernel_rfl) ?_;refine(L _).mono ?_;rintro e w2 ⟨v2,q2,rfl,e2,o2,n2,g2,hb⟩;have L2:∀x∈roundK.fp v2 q2,W.heap.size≤x:=fun x hx=>by have:=g2 x hx;have:=hW.size;omega
 have U:∀x∈txnK.fp v1 q1,∀y∈roundK.fp v2 q2,x≠y:=fun x hx y hy e=>by have:=M1 x hx;have:=g2 y hy;omega
 have M2:=o2.lt;have N:=hb.size;replace o1:=o1.below hb;replace hW:=hW.trans (hb.mono hW.size);clear hb g2;refine⟨_,rfl,z _ hW,?_⟩;simp only[Vd,pjE];refine cla 10 (some 13) 149 #[.agg (dec.map iv).toArray] 2 (by kernel_rfl) ?_;refine(M _).mono ?_;rintro e w3 ⟨a3,c3,rfl,o3,g3,_,hb⟩;have L3:∀x∈intK.fp (l a3 3 c3) dec,W.heap.size≤x:=fun x hx=>by have:=g3 x hx;have:=hW.size;omega
 have V:∀x∈txnK.fp v1 q1,∀y∈intK.fp (l a3 3 c3) dec,x≠y:=fun x hx y hy e=>by have:=M1 x hx;have:=g3 y hy;omega
 have X:∀x∈roundK.fp v2 q2,∀y∈intK.fp (l a3 3 c3) dec,x≠y:=fun x hx y hy e=>by have:=M2 x hx;have:=g3 y hy;omega
 replace o1:=o1.below hb;replace o2:=o2.below hb;replace hW:=hW.trans (hb.mono hW.size);clear hb g3 M1 M2 N;obtain⟨s1,t1,rfl⟩:=o1.shape;obtain⟨s2,t2,rfl⟩:=o2.shape;refine⟨_,rfl,z _ hW,?_⟩;simp only[Vd,pjE];refine qta 11 (some 14) (.agg #[.bool has,l s1 q1.length t1,l s2 q2.length t2,l a3 3 c3]) 1 (by kernel_rfl) (fun u _=>by kernel_rfl) (z _ hW) ?_;simp only[Vd,pjE];have R3:=R.below hW;refine ona 12 0 rfl (by kernel_rfl) ?_;have Z:=R3.row #[.bool has,l s1 q1.length t1,l s2 q2.length t2,l a3 3 c3];have A:=z0x w3 (w.heap.size+1) #[.bool has,l s1 q1.length t1,l s2 q2.length t2,l a3 3 c3];have E:Out [w.heap.size+1] W (w3.setRow (w.heap.size+1) #[.bool has,l s1 q1.length t1,l s2 q2.length t2,l a3 3 c3]):=(Out.of_below hW).trans A;refine z0A (by kernel_rfl) 89 _ _ rfl _ #[.bool has,l s1 q1.length t1,l s2 q2.length t2,l a3 3 c3] rfl rfl 89 _ R3 z5C rfl (by simp[Value.oneCell']) ?_
 go_wp2
 refine ThenGo.to ⟨⟨⟨_,E⟩,rfl⟩,?_⟩;refine z0h (by kernel_rfl) ?_;have D:∀x,W.heap.size≤x→x∉[w.heap.size+1]:=fun x hx=>by simp only[Vc];omega
 have ae:=o1.out A (fun x hx=>D x (L1 x hx));have af:=o2.out A (fun x hx=>D x (L2 x hx));have ag:=o3.out A (fun x hx=>D x (L3 x hx));have Y:Below w.heap.size w (w3.setRow (w.heap.size+1) #[.bool has,l s1 q1.length t1,l s2 q2.length t2,l a3 3 c3]):=z0o (C.trans (hW.mono C.size)) (by omega) _;clear p0 p1 p2 p3 ab z J L M A E o1 o2 o3 R3;generalize w3.setRow (w.heap.size+1) #[.bool has,l s1 q1.length t1,l s2 q2.length t2,l a3 3 c3]=w4 at*;obtain⟨p0,p1,p2,p3⟩:=Z.cel4
 go_wp2
 refine bodyPost_ret (v:=.agg #[.bool has,l s1 q1.length t1,l s2 q2.length t2,l a3 3 c3]) (by simp[results,results99,go_sem,p0,p1,p2,p3]) rfl ?_;refine⟨⟨has,l s1 q1.length t1,q1,l s2 q2.length t2,q2,l a3 3 c3,dec⟩,rfl,?_,⟨ae,af,ag⟩,?_,?_,Y⟩
 ·simp only[InstQ.e,e1,e2]
 ·exact List.nodup_append.2 ⟨n1,List.nodup_append.2 ⟨n2,z0L _ _,X⟩,fun x hx y hy=>by
   rcases List.mem_append.1 hy with hy|hy
   ·exact U x hx y hy
   ·exact V x hx y hy⟩
 ·intro x hx;rcases List.mem_append.1 hx with hx|hx
  ·have:=L1 x hx;omega
  ·rcases List.mem_append.1 hx with hx|hx
   ·have:=L2 x hx;omega
   ·have:=L3 x hx;omega
section
variable {ops:Array Oper} {rest:List Oper} {op:Oper} {a:Act} {w:World} {Q:Exit→Act→World→Prop}
theorem q4E(hw:Region.wanted op (yielded ops a.tmps)=true)(ty:TypeId)(x y:Operand)(ho:op.op=.store ty x y)
  (g o:Nat) (cells:Array Value) (hx:a.eval x=.pointer (some ⟨g,o,none⟩)) (hy:a.eval y=.agg cells)
  (t:TypeId) (old:Array Value) (hg:Blk w g t old) (hi:(f.info? ty).map (·.size)=some cells.size)
  (hold:o+cells.size≤old.size) (h1:cells.all (·.oneCell')=true)
  (h:wpList f ops Q rest (a.put op.dst undef) (w.setCells g o cells.toList)):wpList f ops Q (op::rest) a w:=by
 simp only[wpList];rw[if_pos hw];refine Or.inl (wp_store_mid ty x y ho g o cells hx hy ?_ hi h1 h);intro j hj;refine⟨?_,hg.frozen _⟩;rw[hg.cell (o+j) (old[o+j]'(by omega)) (by rw[Array.getElem?_eq_getElem])];rfl
end
theorem Blk.mid5{w:World}{b:Nat}{t:TypeId}{c0 c1 d0 d1 d2 d3 d4:Value}(h:Blk w b t #[c0,c1,d0,d1,d2,d3,d4])(x0 x1 x2 x3 x4:Value):Blk (w.setCells b 2 [x0,x1,x2,x3,x4]) b t #[c0,c1,x0,x1,x2,x3,x4]:=by
 have:=((((h.set 2 x0).set 3 x1).set 4 x2).set 5 x3).set 6 x4;simpa only[World.setCells,pjE]using this
theorem q0l(w:World)(b:Nat)(x0 x1 x2 x3 x4:Value):Out [b] w (w.setCells b 2 [x0,x1,x2,x3,x4]):=
 (((((Out.refl [b] w).set (b:=b) (j:=2) (u:=x0) (by simp)).set (b:=b) (j:=3) (u:=x1) (by simp)).set (b:=b) (j:=4) (u:=x2) (by simp)).set (b:=b) (j:=5) (u:=x3) (by simp)).set (b:=b) (j:=6) (u:=x4) (by simp)
theorem z5D(w:World)(g:Nat)(cs:Array Value):Out [g] w (w.setRow g cs):=
 ⟨rfl,rfl,rfl,by rw[setRow_size];exact Nat.le_refl _,fun k _ hn=>setRow_other w g k cs (by simpa using hn)⟩
end Go.Proofs.YtjjoahhnkpjolaaGreatDoor

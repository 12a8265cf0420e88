/- Texts joined,with what the laws reach alone. -/
import Derived.Test.YtljbililjlafcaaGreatDoorILAF
import Derived.Maps.AppendAt
set_option linter.unusedVariables false
set_option linter.unusedSimpArgs false
set_option maxRecDepth 100000
set_option maxHeartbeats 4000000
namespace Go.Proofs.YtljbililjlafcaaGreatDoor
open Go.RowKit Go.BigFrame
def bdOf(p:InstQ):List Value:=if insF p.e=0 then brdC p.has p.vb p.e.rounds p.dec else brd0
theorem z1K{x:InstE}(h:insF x=0):shpF x=0∧q3G x=true:=by
 unfold insF at h;by_cases h0:shpF x=0
 ·rw[if_pos h0]at h;refine⟨h0,?_⟩;by_cases h1:q3G x=true
  ·exact h1
  ·rw[if_neg h1]at h;simp at h
 ·rw[if_neg h0]at h;exact absurd h h0
theorem q0x{x:InstE}(h:insF x=0):Wel x.rounds∧(1≤x.rounds.length∧x.rounds.length≤4)∧x.dec.length=3∧z0H x.rounds=0∧vf x.dec 1=0:=by
 obtain⟨h0,_⟩:=z1K h;obtain⟨h1,h2,h3,_⟩:=z1c h0;exact⟨q2t h2,h1,z0P h3,h2,h3⟩
theorem q3f {has:Bool} {vb:Value} {rs:List RoundE} {dec:List Int} (hv:vb.oneCell' = true):(brdC has vb rs dec).toArray.all (·.oneCell')=true:=all_oneCell_toArray (fun v hm=>by
 simp only[brdC,rndC,z3i,List.mem_append,List.mem_cons,List.mem_flatMap,List.mem_replicate,List.mem_map,z1f,List.not_mem_nil,or_false]at hm;rcases hm with (rfl | ⟨r,_,z,_,rfl⟩ | ⟨_,rfl⟩) | (rfl | rfl) | ⟨z,_,rfl⟩ <;> first | rfl | exact hv)
theorem q31{w:World}{p:InstQ}(h:instK.rd w p):(bdOf p).length=30∧(bdOf p).toArray.all (·.oneCell')=true:=by
 unfold bdOf;by_cases h0:insF p.e=0
 ·rw[if_pos h0];obtain⟨h1,h2,h3,_⟩:=q0x h0;refine⟨z2C h1 h2.2 h3,q3f ?_⟩;obtain⟨a,c,e⟩:=h.1.shape;rw[e];rfl
 ·rw[if_neg h0];exact⟨rfl,by kernel_rfl⟩
theorem z19(p:InstQ)(w:World)(hG:Rul w)(h:instK.rd w p)(hl:p.n≤1048576):
  Calls Tryz.prog 61 #[.agg #[.bool p.has,p.vb,p.vr,p.vd]] w fun e w'=>e=.returned (.int .i64 (insF p.e))∧Below w.heap.size w w':=by
 obtain⟨z,I⟩:=q31 h;have y:=fun w hG h=>z4v p w hG h hl
 have A:=fun(w':World) hb=>instK.rd_below (w':=w') h hb
 change∀w hG h,Calls _ _ _ _ fun e w'=>e=.returned (.tuple #[.agg (bdOf p).toArray,_])∧_ at y
 generalize bdOf p=BD at*;generalize insF p.e=C at*;obtain⟨has,vb,x,vr,d,vd,dec⟩:=p;obtain⟨ba,bk,rfl⟩:∃a c,vb=.slice a x.length c:=h.1.shape;obtain⟨va,vk,rfl⟩:∃a c,vr=.slice a d.length c:=h.2.1.shape;obtain⟨da,dk,rfl⟩:∃a c,vd=.slice a dec.length c:=h.2.2.shape;dsimp only at y A;have hB:Below w.heap.size w (w.alloc (.cells #[.bool has,.slice ba x.length bk,.slice va d.length vk,.slice da dec.length dk] 44)):=by go_grown
 have J:(Tryz.prog.info? 149).map (·.size)=some BD.toArray.size:=by rw[List.size_toArray,z];exact z2V
 have E:(#[.int .i64 0,.int .i64 0,.int .i64 0,.int .i64 0,.int .i64 0,.int .i64 0,.int .i64 0,.int .i64 0,.int .i64 0,.int .i64 0,.int .i64 0,.int .i64 0,.int .i64 0,.int .i64 0,.int .i64 0,.int .i64 0,.int .i64 0,.int .i64 0,.int .i64 0,.int .i64 0,.int .i64 0,.int .i64 0,.int .i64 0,.int .i64 0,.int .i64 0,.bool false,.slice none 0 0,.int .i64 0,.int .i64 0,.int .i64 0]:Array Value).size=BD.toArray.size:=(show 30=BD.length from z.symm)
 go_enter Tryz.func61,Tryz.ntmps61
 go_wp2_with fail
 generalize w.alloc (.cells #[.bool has,.slice ba x.length bk,.slice va d.length vk,.slice da dec.length dk] 44)=W at*;refine(y W (hG.below hB) (A W hB)).mono ?_;rintro e w1 ⟨rfl,D⟩;replace hB:=hB.trans (D.mono hB.size);have Bz:=Blk.new w1 149 #[.int .i64 0,.int .i64 0,.int .i64 0,.int .i64 0,.int .i64 0,.int .i64 0,.int .i64 0,.int .i64 0,.int .i64 0,.int .i64 0,.int .i64 0,.int .i64 0,.int .i64 0,.int .i64 0,.int .i64 0,.int .i64 0,.int .i64 0,.int .i64 0,.int .i64 0,.int .i64 0,.int .i64 0,.int .i64 0,.int .i64 0,.int .i64 0,.int .i64 0,.bool false,.slice none 0 0,.int .i64 0,.int .i64 0,.int .i64 0];have L:=z0x (hB.alloc hB.size (.cells #[.int .i64 0,.int .i64 0,.int .i64 0,.int .i64 0,.int .i64 0,.int .i64 0,.int .i64 0,.int .i64 0,.int .i64 0,.int .i64 0,.int .i64 0,.int .i64 0,.int .i64 0,.int .i64 0,.int .i64 0,.int .i64 0,.int .i64 0,.int .i64 0,.int .i64 0,.int .i64 0,.int .i64 0,.int .i64 0,.int .i64 0,.int .i64 0,.int .i64 0,.bool false,.slice none 0 0,.int .i64 0,.int .i64 0,.int .i64 0] 149)) (g:=w1.heap.size) hB.size BD.toArray;clear y A D
 go_wp2_with (refine z1n (by kernel_rfl) 149 _ _ rfl _ BD.toArray rfl rfl 149 _ Bz J E I ?_)
 go_ret;exact⟨rfl,L⟩
def outV:List Int→Int
 |[]=>3
 |x::r=>if x=3 then outV r else x
theorem q0y(L:List Int):∀k,(∀j,j<k→L.getD j 0=3)→k<L.length→L.getD k 0≠3→outV L=L.getD k 0:=by
 induction L with
 |nil=>intro k _ h;simp at h
 |cons x r ih=>
  intro k h0 hk hne
  cases k with
  |zero=>simp[List.getD]at hne⊢;simp[outV,hne]
  |succ k=>
   have hx:x=3:=by simpa[List.getD]using h0 0 (by omega)
   have:=ih k (fun j hj=>by simpa[List.getD]using h0 (j+1) (by omega)) (by simpa using hk) (by simpa[List.getD]using hne);simp only[outV,hx,if_true];rw[this];simp[List.getD]
theorem z6W(L:List Int)(h:∀j,j<L.length→L.getD j 0=3):outV L=3:=by
 induction L with
 |nil=>rfl
 |cons x r ih=>
  have hx:x=3:=by simpa[List.getD]using h 0 (by simp)
  simp only[outV,hx,if_true];exact ih (fun j hj=>by simpa[List.getD]using h (j+1) (by simpa using hj))
def ocC(x:InstE):Int:=if insF x=0 then(if outV x.dec=3 then 4 else 0)else insF x
def ocV(x:InstE):Int:=if insF x=0 then(if outV x.dec=3 then 0 else outV x.dec)else 0
theorem z2a(p:InstQ)(w:World)(hG:Rul w)(h:instK.rd w p)(hl:p.n≤1048576):
  Calls Tryz.prog 92 #[.agg #[.bool p.has,p.vb,p.vr,p.vd]] w fun e w'=>e=.returned (.agg #[.int .i64 (ocC p.e),.int .i64 (ocV p.e)])∧Below w.heap.size w w':=by
 obtain⟨N,T⟩:=q31 h;have M:=fun w hG h=>z4v p w hG h hl
 have Y:=fun(w':World) hb=>instK.rd_below (w':=w') h hb
 change∀w hG h,Calls _ _ _ _ fun e w'=>e=.returned (.tuple #[.agg (bdOf p).toArray,_])∧_ at M
 have J:Hid (insF p.e=0→bdOf p=brdC p.has p.vb p.e.rounds p.dec∧Wel p.e.rounds∧p.e.rounds.length≤4∧p.dec.length=3):=fun h0=>by
  obtain⟨h1,h2,h3,_⟩:=q0x h0;exact⟨if_pos h0,h1,h2.2,h3⟩
 obtain⟨D,hD⟩:∃D,ocC p.e=D:=⟨_,rfl⟩
 obtain⟨E,hE⟩:∃E,ocV p.e=E:=⟨_,rfl⟩
 have z:Hid ((insF p.e=0→(D=if outV p.dec=3 then 4 else 0)∧(E=if outV p.dec=3 then 0 else outV p.dec))∧(insF p.e≠0→D=insF p.e∧E=0)):=by
  refine⟨fun h0=>⟨?_,?_⟩,fun h0=>⟨?_,?_⟩⟩
  ·rw[←hD];exact if_pos h0
  ·rw[←hE];exact if_pos h0
  ·rw[←hD];exact if_neg h0
  ·rw[←hE];exact if_neg h0
 rw[hD,hE];clear hD hE;generalize bdOf p=BD at*;generalize insF p.e=C at*;generalize p.e.rounds=rs at*;obtain⟨has,vb,x,vr,d,vd,dec⟩:=p;obtain⟨ba,bk,rfl⟩:∃a c,vb=.slice a x.length c:=h.1.shape;obtain⟨va,vk,rfl⟩:∃a c,vr=.slice a d.length c:=h.2.1.shape;obtain⟨da,dk,rfl⟩:∃a c,vd=.slice a dec.length c:=h.2.2.shape;dsimp only at M Y J z;have hB:Below w.heap.size w ((w.alloc (.cells #[.bool has,.slice ba x.length bk,.slice va d.length vk,.slice da dec.length dk] 44)).alloc (.cells #[.int .i64 0,.int .i64 0] 113)):=by go_grown
 have Rb:=Blk.new (w.alloc (.cells #[.bool has,.slice ba x.length bk,.slice va d.length vk,.slice da dec.length dk] 44)) 113 #[.int .i64 0,.int .i64 0];simp only[World.size_alloc]at Rb;have U:(Tryz.prog.info? 149).map (·.size)=some BD.toArray.size:=by rw[List.size_toArray,N];exact z2V
 have O:(#[.int .i64 0,.int .i64 0,.int .i64 0,.int .i64 0,.int .i64 0,.int .i64 0,.int .i64 0,.int .i64 0,.int .i64 0,.int .i64 0,.int .i64 0,.int .i64 0,.int .i64 0,.int .i64 0,.int .i64 0,.int .i64 0,.int .i64 0,.int .i64 0,.int .i64 0,.int .i64 0,.int .i64 0,.int .i64 0,.int .i64 0,.int .i64 0,.int .i64 0,.bool false,.slice none 0 0,.int .i64 0,.int .i64 0,.int .i64 0]:Array Value).size=BD.toArray.size:=(show 30=BD.length from N.symm)
 go_enter Tryz.func92,Tryz.ntmps92
 go_wp2_with fail
 generalize (w.alloc (.cells #[.bool has,.slice ba x.length bk,.slice va d.length vk,.slice da dec.length dk] 44)).alloc (.cells #[.int .i64 0,.int .i64 0] 113)=W at*;refine(M W (hG.below hB) (Y W hB)).mono ?_;rintro e w1 ⟨rfl,V⟩;replace hB:=hB.trans (V.mono hB.size);replace Rb:=Rb.below V;have Bz:=Blk.new w1 149 #[.int .i64 0,.int .i64 0,.int .i64 0,.int .i64 0,.int .i64 0,.int .i64 0,.int .i64 0,.int .i64 0,.int .i64 0,.int .i64 0,.int .i64 0,.int .i64 0,.int .i64 0,.int .i64 0,.int .i64 0,.int .i64 0,.int .i64 0,.int .i64 0,.int .i64 0,.int .i64 0,.int .i64 0,.int .i64 0,.int .i64 0,.int .i64 0,.int .i64 0,.bool false,.slice none 0 0,.int .i64 0,.int .i64 0,.int .i64 0];have L:=z0x (hB.alloc hB.size (.cells #[.int .i64 0,.int .i64 0,.int .i64 0,.int .i64 0,.int .i64 0,.int .i64 0,.int .i64 0,.int .i64 0,.int .i64 0,.int .i64 0,.int .i64 0,.int .i64 0,.int .i64 0,.int .i64 0,.int .i64 0,.int .i64 0,.int .i64 0,.int .i64 0,.int .i64 0,.int .i64 0,.int .i64 0,.int .i64 0,.int .i64 0,.int .i64 0,.int .i64 0,.bool false,.slice none 0 0,.int .i64 0,.int .i64 0,.int .i64 0] 149)) (g:=w1.heap.size) hB.size BD.toArray;have A:Blk ((w1.alloc (.cells #[.int .i64 0,.int .i64 0,.int .i64 0,.int .i64 0,.int .i64 0,.int .i64 0,.int .i64 0,.int .i64 0,.int .i64 0,.int .i64 0,.int .i64 0,.int .i64 0,.int .i64 0,.int .i64 0,.int .i64 0,.int .i64 0,.int .i64 0,.int .i64 0,.int .i64 0,.int .i64 0,.int .i64 0,.int .i64 0,.int .i64 0,.int .i64 0,.int .i64 0,.bool false,.slice none 0 0,.int .i64 0,.int .i64 0,.int .i64 0] 149)).setRow w1.heap.size BD.toArray) (w.heap.size+1) 113 #[.int .i64 0,.int .i64 0]:=(setRow_other _ _ _ _ (by have:=Rb.lt;omega)).trans (Rb.below ((Below.refl _ _).alloc (Nat.le_refl _) _));have B2:=Bz.row BD.toArray;clear M Y V Rb;by_cases h0:C=0
 ·obtain⟨Z,ad,h4,I⟩:=J.out h0;have HD:Hid (D=if outV dec=3 then 4 else 0):=(z.out.1 h0).1;have HV:Hid (E=if outV dec=3 then 0 else outV dec):=(z.out.1 h0).2;subst h0;have aa:=rng B2 (dec.map iv) (o:=27) (fun j v hv=>by
   obtain⟨hj,rfl⟩:=row_get I hv;rw[List.getElem?_toArray,Z];exact q0n ad h4 I j hj)
  have ab:(Tryz.prog.info? 142).map (·.size)=some (dec.map iv).length:=by rw[List.length_map,I];exact z5u
  clear J z Z
  go_wp2_with (first|(refine z1n (by kernel_rfl) 149 _ _ rfl _ BD.toArray rfl rfl 149 _ Bz U O T ?_)|(refine z9b (by kernel_rfl) 142 _ rfl _ _ rfl (dec.map iv) _ aa Tryz.underlying142 rfl ab ?_))
  clear aa Bz;generalize (w1.alloc (.cells #[.int .i64 0,.int .i64 0,.int .i64 0,.int .i64 0,.int .i64 0,.int .i64 0,.int .i64 0,.int .i64 0,.int .i64 0,.int .i64 0,.int .i64 0,.int .i64 0,.int .i64 0,.int .i64 0,.int .i64 0,.int .i64 0,.int .i64 0,.int .i64 0,.int .i64 0,.int .i64 0,.int .i64 0,.int .i64 0,.int .i64 0,.int .i64 0,.int .i64 0,.bool false,.slice none 0 0,.int .i64 0,.int .i64 0,.int .i64 0] 149)).setRow w1.heap.size BD.toArray=X at*;go_loopw[18] (fun j wr=>∃m:Nat,m≤3∧j=.int .i64 m∧Hid (∀j,j<m→dec.getD j 0=3)∧wr=X) (fun j _=>3-(intOf j).toNat)
  case atStart=>exact⟨0,Nat.zero_le _,rfl,fun j hj=>absurd hj (Nat.not_lt_zero _),rfl⟩
  case round=>
   obtain⟨m,hm,rfl,HA,rfl⟩:=hrel;obtain⟨q0,q1⟩:=A.cel2;obtain⟨f0,f1⟩:=A.frz2;by_cases af:m<3
   ·have ai:(m:Int)<3:=by omega
    have ak:=fun w=>q0u I m af w
    have HY:Hid (dec.getD m 0≠3→outV dec=dec.getD m 0):=fun hx=>q0y dec m HA.out (by omega) hx
    have HN:Hid (dec.getD m 0=3→∀j,j<m+1→dec.getD j 0=3):=fun hx j hj=>by
     by_cases ae:j=m
     ·subst ae;exact hx
     ·exact HA.out j (by omega)
    clear HA;generalize dec.getD m 0=v at*;by_cases hv:v=3
    ·have ah:(v !=3)=false:=by simp[hv]
     have R:=HN.out hv;have HR:Hid _:=R;clear HY HN R hv
     go_wp2
     go_roundw
     case rel=>exact⟨m+1,by omega,by go_num,HR.out,by first|rfl|trivial⟩
     case measure=>simp[intOf];omega
    ·have ah:(v !=3)=true:=by simpa using hv
     have y:=HY.out hv;have E1:Hid (D=0∧E=v):=by
      refine⟨?_,?_⟩
      ·rw[HD.out,y,if_neg hv]
      ·rw[HV.out,y,if_neg hv]
     clear HY HN HD HV y hv
     go_wp2
     exact bodyPost_ret (v:=.agg #[.int .i64 0,.int .i64 v]) (by simp[results,Tryz.results92,go_sem,q0,q1]) rfl ⟨by rw[E1.out.1,E1.out.2],(L.setCell (p:=⟨w.heap.size+1,0,none⟩) (by show w.heap.size≤w.heap.size+1;omega) _).setCell (p:=⟨w.heap.size+1,1,none⟩) (by show w.heap.size≤w.heap.size+1;omega) _⟩
   ·have ag:m=3:=by omega
    subst ag;have y:=z6W dec (by rw[I];exact HA.out);have E1:Hid (D=4∧E=0):=by
     refine⟨?_,?_⟩
     ·rw[HD.out,y,if_pos rfl]
     ·rw[HV.out,y,if_pos rfl]
    clear HA HD HV y
    go_wp2
    exact bodyPost_ret (v:=.agg #[.int .i64 4,.int .i64 0]) (by simp[results,Tryz.results92,go_sem,q0,q1]) rfl ⟨by rw[E1.out.1,E1.out.2],(L.setCell (p:=⟨w.heap.size+1,0,none⟩) (by show w.heap.size≤w.heap.size+1;omega) _).setCell (p:=⟨w.heap.size+1,1,none⟩) (by show w.heap.size≤w.heap.size+1;omega) _⟩
 ·have E1:Hid (D=C∧E=0):=z.out.2 h0;have aj:(C !=0)=true:=by simpa using h0
  obtain⟨q0,q1⟩:=A.cel2;obtain⟨f0,f1⟩:=A.frz2;clear z J h0 B2 A;generalize hX:(w1.alloc (.cells #[.int .i64 0,.int .i64 0,.int .i64 0,.int .i64 0,.int .i64 0,.int .i64 0,.int .i64 0,.int .i64 0,.int .i64 0,.int .i64 0,.int .i64 0,.int .i64 0,.int .i64 0,.int .i64 0,.int .i64 0,.int .i64 0,.int .i64 0,.int .i64 0,.int .i64 0,.int .i64 0,.int .i64 0,.int .i64 0,.int .i64 0,.int .i64 0,.int .i64 0,.bool false,.slice none 0 0,.int .i64 0,.int .i64 0,.int .i64 0] 149)).setRow w1.heap.size BD.toArray=X at q0 q1 f0 f1 L
  go_wp2_with (refine z1n (by kernel_rfl) 149 _ _ rfl _ BD.toArray rfl rfl 149 _ Bz U O T ?_)
  exact bodyPost_ret (v:=.agg #[.int .i64 C,.int .i64 0]) (by simp[results,Tryz.results92,go_sem,q0,q1]) rfl ⟨by rw[E1.out.1,E1.out.2],(L.setCell (p:=⟨w.heap.size+1,0,none⟩) (by show w.heap.size≤w.heap.size+1;omega) _).setCell (p:=⟨w.heap.size+1,1,none⟩) (by show w.heap.size≤w.heap.size+1;omega) _⟩
theorem z1L(b o:Nat)(p:InstQ)(w:World)(hP:InstP w b o p)(hl:p.n≤1048576):
  Calls Tryz.prog 31 #[.pointer (some ⟨b,o,none⟩)] w fun e w'=>e=.returned (.int .i64 (outV p.dec))∧w'=w:=by
 obtain⟨has,vb,batch,vr,rounds,vd,dec⟩:=p;have hD:intK.At w vd dec:=hP.dec;obtain⟨da,dk,rfl⟩:=hD.shape;have hRow:=(z0m hD).2;obtain⟨c0,c1,c2,c3⟩:=hP.box;dsimp only[InstQ.n]at c0 c1 c2 c3 hl⊢;generalize hE:outV dec=E;have HE:Hid (outV dec=E):=hE;clear hE;go_enter Tryz.func31,Tryz.ntmps31
 go_wp2
 go_loop[3] (fun j=>∃k:Nat,k≤dec.length∧j=.int .i64 k∧Hid (∀j,j<k→dec.getD j 0=3)) (fun j=>dec.length-(intOf j).toNat)
 case atStart=>exact⟨0,Nat.zero_le _,rfl,fun j hj=>absurd hj (Nat.not_lt_zero _)⟩
 case round=>
  obtain⟨k,hk,rfl,HA⟩:=hrel;by_cases hlt:k<dec.length
  ·obtain⟨bb,off,rfl,hbs,hc⟩:=hRow k hlt;have HY:Hid (dec.getD k 0≠3→E=dec.getD k 0):=fun hx=>by rw[←HE.out];exact q0y dec k HA.out hlt hx
   have HN:Hid (dec.getD k 0=3→∀j,j<k+1→dec.getD j 0=3):=fun hx j hj=>by
    by_cases hjm:j=k
    ·subst hjm;exact hx
    ·exact HA.out j (by omega)
   clear HA;generalize dec.getD k 0=v at*;by_cases hv:v=3
   ·have hv':(v !=3)=false:=by simp[hv]
    have R:=HN.out hv;have HR:Hid _:=R;clear HY HN R hv
    go_wp2
    go_round
    case rel=>exact⟨k+1,by omega,by go_num,HR.out⟩
    case measure=>simp[intOf];omega
   ·have hv':(v !=3)=true:=by simpa using hv
    have E1:Hid (E=v):=HY.out hv;clear HY HN hv
    go_wp2
    go_ret;exact⟨by rw[E1.out];rfl,rfl⟩
  ·have hkl:k=dec.length:=by omega
   subst hkl;have E1:Hid (E=3):=by rw[←HE.out];exact z6W dec HA.out
   clear HA HE
   go_wp2
   go_ret;exact⟨by rw[E1.out];rfl,rfl⟩
section
variable {P:Type} {K:Kind P} {w w':World} {v v':Value} {ps:List P} {p:P} {B:Nat}
theorem Kind.row_snoc(ps:List P)(p:P):K.row (ps++[p])=K.row ps++K.cells p:=by simp[Kind.row]
theorem Kind.Own.snoc(h:K.Own w v ps)(L:(K.fp v ps).Nodup)(C:∀k∈K.fp v ps,B≤k)(hp:K.own w p)(M:(K.foot p).Nodup)(z:∀k∈K.foot p,k∉K.fp v ps)(D:∀k∈K.foot p,B≤k)(hB:B≤w.heap.size)
  (I:w'.ownsRow 0 K.ty K.size v' (ps.length+1) (K.row ps++K.cells p)) (hg:w.grownBy w' v.ownBlock) (c:v'.ownBlock=v.ownBlock∨v'.ownBlock=some w.heap.size):
  K.Own w' v' (ps++[p])∧(K.fp v' (ps++[p])).Nodup∧(∀k∈K.fp v' (ps++[p]),B≤k)∧Out (blk v) w w':=by
 have hO:Out (blk v) w w':=Out.of_grown hg;have d:=List.nodup_append.1 L;have J:=h.lt;have E:=K.own_lt hp;have A:(ps++[p]).flatMap K.foot=ps.flatMap K.foot++K.foot p:=by simp
 refine⟨⟨?_,?_⟩,?_,?_,hO⟩
 ·rw[List.length_append,List.length_singleton,Kind.row_snoc];exact I
 ·intro q hq;rcases List.mem_append.1 hq with hq|hq
  ·exact K.own_out (h.2 q hq) hO (fun k hk y=>d.2.2 k y k (List.mem_flatMap.2 ⟨q,hq,hk⟩) rfl)
  ·simp only[List.mem_singleton]at hq;subst hq;exact K.own_out hp hO (fun k hk y=>z k hk (by simp only[Kind.fp,List.mem_append];exact Or.inl y))
 ·unfold Kind.fp;rw[A];have x:(ps.flatMap K.foot++K.foot p).Nodup:=List.nodup_append.2 ⟨d.2.1,M,fun a ha b hb e=>z b hb (by simp only[Kind.fp,List.mem_append];exact Or.inr (e▸ha))⟩;rcases c with c|c
  ·have e:blk v'=blk v:=by unfold blk;rw[c]
   rw[e];refine List.nodup_append.2 ⟨d.1,x,fun a ha b hb e=>?_⟩;subst e;rcases List.mem_append.1 hb with hb|hb
   ·exact d.2.2 a ha a hb rfl
   ·exact z a hb (by simp only[Kind.fp,List.mem_append];exact Or.inl ha)
  ·have e:blk v'=[w.heap.size]:=by unfold blk;rw[c];rfl
   rw[e];refine List.nodup_append.2 ⟨by simp,x,fun a ha b hb e=>?_⟩;simp only[List.mem_singleton]at ha;subst e ha;rcases List.mem_append.1 hb with hb|hb
   ·have:=J _ (show w.heap.size∈K.fp v ps by simp only[Kind.fp,List.mem_append];exact Or.inr hb);omega
   ·have:=E _ hb;omega
 ·intro k hk;unfold Kind.fp at hk;rw[A]at hk;rcases List.mem_append.1 hk with hk|hk
  ·rcases c with c|c
   ·exact C k (by simp only[Kind.fp,List.mem_append];left;unfold blk at hk⊢;rw[c]at hk;exact hk)
   ·unfold blk at hk;rw[c]at hk;simp only[Option.toList,List.mem_singleton]at hk;omega
  ·rcases List.mem_append.1 hk with hk|hk
   ·exact C k (by simp only[Kind.fp,List.mem_append];exact Or.inr hk)
   ·exact D k hk
theorem Kind.own_nil(w:World):K.Own w (.slice none 0 0) ([]:List P)∧(K.fp (.slice none 0 0) ([]:List P))=[]:=⟨⟨World.ownsRow_nil _ _ _ _,fun p hp=>by simp at hp⟩,by simp[Kind.fp,blk,Value.ownBlock]⟩
end
theorem z5X(v:Value)(ps:List TxnQ)(w:World)(h:txnK.At w v ps)(ax:∀p∈ps,0<p.acts.length)(hl:ps.length+nmL TxnQ.n ps≤1048576):
  Calls Tryz.prog 68 #[v] w fun e w'=>∃v' qs,e=.returned v'∧qs.map TxnQ.e=ps.map TxnQ.e∧txnK.Own w' v' qs∧(txnK.fp v' qs).Nodup∧(∀k∈txnK.fp v' qs,w.heap.size≤k)∧Below w.heap.size w w':=by
 obtain⟨a,cap,rfl⟩:=h.shape;obtain⟨i0,hi,aB,aC,aD⟩:=info_parts z09;obtain⟨ai,aj⟩:=Kind.own_nil (K:=txnK) w;have X:Hid ((txnK.fp (.slice none 0 0) ([]:List TxnQ)).Nodup∧∀k∈txnK.fp (.slice none 0 0) ([]:List TxnQ),w.heap.size≤k):=by
  rw[aj];exact⟨by simp,by simp⟩
 clear aj;go_enter Tryz.func68,Tryz.ntmps68
 go_wp2
 go_loopw[3,8] (fun v j wr=>∃ (k:Nat) (qs:List TxnQ),k≤ps.length∧j=.int .i64 k∧Hid (qs.map TxnQ.e=(ps.take k).map TxnQ.e)∧txnK.Own wr v qs∧Hid ((txnK.fp v qs).Nodup∧∀k∈txnK.fp v qs,w.heap.size≤k)∧Below w.heap.size w wr) (fun _ j _=>ps.length-(intOf j).toNat)
 case atStart=>exact⟨0,[],Nat.zero_le _,rfl,(rfl:_=_),ai,X,Below.refl _ _⟩
 case round=>
  clear X ai;obtain⟨k,qs,hk,rfl,HE,hO,HN,hb⟩:=hrel;obtain⟨sa,sc,rfl⟩:=hO.shape;have ad:Hid (qs.length=k):=by
   have:=congrArg List.length HE.out;rw[List.length_map,List.length_map,List.length_take]at this;show qs.length=k;omega
  by_cases M:k<ps.length
  ·obtain⟨b,aE,rfl,aG,hc,d⟩:=(h.below hb).cell (by decide) k M;have A:∀j x,(txnK.cells ps[k])[j]?=some x→wr.cell? ⟨b,aE+k*4+j,none⟩=some x:=hc;have c0:=A 0 (.int .i64 ps[k].i) rfl;have c1:=A 1 (.int .i64 ps[k].s) rfl;have c2:=A 2 (.int .i64 ps[k].q) rfl;have c3:=A 3 (ps[k].va) rfl;have V:=z0W TxnQ.n ps k M;have D:=ax _ (List.getElem_mem M);have Z:Hid (∀p':TxnQ,p'.e=TxnQ.e ps[k]→(qs++[p']).map TxnQ.e=(ps.take (k+1)).map TxnQ.e):=fun p' ay=>by
    rw[List.take_succ_eq_append_getElem M,List.map_append,List.map_append,HE.out,List.map_singleton,List.map_singleton,ay]
   clear hc A;generalize ps[k]=p at*;obtain⟨i,s,q,va,c⟩:=p;replace d:actK.At wr va c:=d;replace V:c.length≤nmL TxnQ.n ps:=V;obtain⟨aa,ac,rfl⟩:=d.shape;dsimp only at c0 c1 c2 c3 D;obtain⟨ab,ao,au⟩:∃ab ao,aa=some ⟨ab,ao,none⟩:=by
    rcases(z0O d).2 with h0|⟨ab,ao,e,_⟩
    ·have:=z0r c;rw[h0]at this;simp at this;omega
    ·exact⟨ab,ao,e⟩
   subst au;have L:Below wr.heap.size wr (wr.alloc (.cells #[.int .i64 i,.int .i64 s,.int .i64 q,.slice (some ⟨ab,ao,none⟩) c.length ac] 82)):=by go_grown
   have ag:=z15 i s q ab ao ac c _ ((z0O d).2.below L) D (by omega);rw[Nat.add_zero]at c0;replace hO:=hO.below L;replace hb:=hb.trans (L.mono hb.size);clear HE L
   go_wp2_with fail
   clear c0 c1 c2 c3;generalize wr.alloc (.cells #[.int .i64 i,.int .i64 s,.int .i64 q,.slice (some ⟨ab,ao,none⟩) c.length ac] 82)=Y at*;have aF:w.heap.size≤Y.heap.size:=hb.size;refine ag.mono ?_;rintro e w2 ⟨a2,c2,rfl,am,I⟩;have W:=hO.lt;replace hO:=hO.below I;replace hb:=hb.trans (I.mono hb.size);obtain⟨o2,ah⟩:=z0y am;have hP:txnK.own w2 ⟨i,s,q,.slice a2 c.length c2,c⟩:=⟨o2,fun _ _=>trivial⟩
   have y:∀x∈txnK.foot ⟨i,s,q,.slice a2 c.length c2,c⟩,Y.heap.size≤x:=fun x hx=>ah x (by rw[←z05 (.slice a2 c.length c2) c];exact hx)
   have af:(txnK.foot ⟨i,s,q,.slice a2 c.length c2,c⟩).Nodup:=by
    show(actK.fp _ _).Nodup;rw[z05];exact z0w _
   have z:Below w2.heap.size w2 (w2.alloc (.cells #[.int .i64 i,.int .i64 s,.int .i64 q,.slice a2 c.length c2] 82)):=by go_grown
   have T:=hO.below z;have ae:=txnK.own_out (F:=[]) hP (Out.of_below z) (fun _ _=>by simp);have J:=hb.trans (z.mono hb.size);clear ag am hO hP ah;have E:=T.1
   go_wp2_with (at_builtin;refine wpList_append_own_at _ rfl _ _ 40 rfl 0 82 i0 (.agg #[.int .i64 0,.int .i64 0,.int .i64 0,.slice none 0 0]) 4 48 Tryz.underlying40 hi aB aC aD rfl (by decide) _ qs.length (txnK.row qs) rfl E ⟨w2.heap.size,0,none⟩ 1 1 [.int .i64 i,.int .i64 s,.int .i64 q,.slice a2 c.length c2] rfl rfl ?c1 ?c2 ?c3 ?c4 ?c5 ?_)
   all_goals try(case c1=>intro j u hj;match j,hj with|0,hj=>simp at hj;subst hj;simp[Addr.add]|1,hj=>simp at hj;subst hj;simp[Addr.add]|2,hj=>simp at hj;subst hj;simp[Addr.add]|3,hj=>simp at hj;subst hj;simp[Addr.add])
   all_goals try(case c2=>intro u hu;simp at hu;rcases hu with rfl|rfl|rfl|rfl<;>rfl)
   all_goals try(case c3=>have:=ad.out;unfold maxLen;omega)
   all_goals try(case c4=>have:=ad.out;omega)
   all_goals try(case c5=>first|omega|simp)
   intro v' w5 O C al U;clear al E;rw[show w2.heap.size+1=(w2.alloc (.cells #[.int .i64 i,.int .i64 s,.int .i64 q,.slice a2 c.length c2] 82)).heap.size from(World.size_alloc _ _).symm]at U;generalize az:w2.alloc (.cells #[.int .i64 i,.int .i64 s,.int .i64 q,.slice a2 c.length c2] 82)=WA at*;clear az;have aH:Y.heap.size≤WA.heap.size:=by have:=I.size;have:=z.size;omega
   obtain⟨ar,ak,N,an⟩:=T.snoc HN.out.1 HN.out.2 ae af (fun x hx aA=>by have:=W x aA;have:=y x hx;omega) (fun x hx=>by have:=y x hx;omega) J.size O C U;have av:Below w.heap.size w w5:=Out.keep J an J.size (fun x hx=>HN.out.2 x (by simp only[Kind.fp,List.mem_append];exact Or.inl hx));have ap:Hid ((qs++[(⟨i,s,q,.slice a2 c.length c2,c⟩:TxnQ)]).map TxnQ.e=(ps.take (k+1)).map TxnQ.e):=Z.out _ rfl;have aq:Hid ((txnK.fp v' (qs++[(⟨i,s,q,.slice a2 c.length c2,c⟩:TxnQ)])).Nodup∧∀k∈txnK.fp v' (qs++[(⟨i,s,q,.slice a2 c.length c2,c⟩:TxnQ)]),w.heap.size≤k):=⟨ak,N⟩
   clear Z HN W y af ae T J O C U an ak N d hb z I V D
   go_wp2
   go_roundw
   case rel=>exact⟨k+1,_,by omega,by go_num,ap,ar,aq,av⟩
   case measure=>simp[intOf];omega
  ·have aw:k=ps.length:=by omega
   subst aw;have hE:=HE.out;rw[List.take_length]at hE;clear HE
   go_wp2
   go_ret;exact⟨_,qs,rfl,hE,hO,HN.out.1,HN.out.2,hb⟩
theorem z2F(w:World)(g:Nat)(cs:Array Value):Out [g] w (w.setRow g cs):=
 ⟨rfl,rfl,rfl,by rw[setRow_size];exact Nat.le_refl _,fun k _ hn=>setRow_other w g k cs (by simpa using hn)⟩
section
variable {ops:Array Oper} {rest:List Oper} {op:Oper} {a:Act} {w:World} {Q:Exit→Act→World→Prop}
theorem q32(hw:Region.wanted op (yielded ops a.tmps)=true)(ty:TypeId)(x y:Operand)(ho:op.op=.store ty x y)
  (g o:Nat) (cells:Array Value) (hx:a.eval x=.pointer (some ⟨g,o,none⟩)) (hy:a.eval y=.agg cells)
  (t:TypeId) (old:Array Value) (hg:Blk w g t old) (hi:(Tryz.prog.info? ty).map (·.size)=some cells.size)
  (hold:o+cells.size≤old.size) (h1:cells.all (·.oneCell')=true)
  (h:wpList Tryz.prog ops Q rest (a.put op.dst undef) (w.setCells g o cells.toList)):wpList Tryz.prog ops Q (op::rest) a w:=by
 simp only[wpList];rw[if_pos hw];refine Or.inl (wp_store_mid ty x y ho g o cells hx hy ?_ hi h1 h);intro j hj;refine⟨?_,hg.frozen _⟩;rw[hg.cell (o+j) (old[o+j]'(by omega)) (by rw[Array.getElem?_eq_getElem])];rfl
end
theorem Blk.mid5{w:World}{b:Nat}{t:TypeId}{c0 c1 d0 d1 d2 d3 d4:Value}(h:Blk w b t #[c0,c1,d0,d1,d2,d3,d4])(x0 x1 x2 x3 x4:Value):Blk (w.setCells b 2 [x0,x1,x2,x3,x4]) b t #[c0,c1,x0,x1,x2,x3,x4]:=by
 have:=((((h.set 2 x0).set 3 x1).set 4 x2).set 5 x3).set 6 x4;simpa only[World.setCells,pjE]using this
theorem q1Q(w:World)(b:Nat)(x0 x1 x2 x3 x4:Value):Out [b] w (w.setCells b 2 [x0,x1,x2,x3,x4]):=
 (((((Out.refl [b] w).set (b:=b) (j:=2) (u:=x0) (by simp)).set (b:=b) (j:=3) (u:=x1) (by simp)).set (b:=b) (j:=4) (u:=x2) (by simp)).set (b:=b) (j:=5) (u:=x3) (by simp)).set (b:=b) (j:=6) (u:=x4) (by simp)
theorem q0z(w:World)(g:Nat)(cs:Array Value):Out [g] w (w.setRow g cs):=
 ⟨rfl,rfl,rfl,by rw[setRow_size];exact Nat.le_refl _,fun k _ hn=>setRow_other w g k cs (by simpa using hn)⟩
theorem q1R(kn sf:Int)(p:RepQ)(c:Int)(w:World)(h:repK.rd w p)(hn:RepQ.wf p)(h0:0≤c)(h1:c≤1048576):
  Calls Tryz.prog 26 #[.agg #[.int .i64 kn,.int .i64 sf,p.vd,p.vb,p.vt,p.vu,p.vn],.int .i64 c] w fun e w'=>∃r:Int,e=.returned (.int .i64 r)∧(¬r<0→(RepQ.n p:Int)+r=c)∧Below w.heap.size w w':=by
 have hm:=fun w h=>z7M p c w h hn h0 h1
 have hr:=fun(w':World) hb=>repK.rd_below (w':=w') h hb
 generalize (RepQ.n p:Int)=NP at*;clear hn;obtain⟨vd,done,vb,base,vt,x,vu,d,vn,y⟩:=p;obtain⟨a0,k0,rfl⟩:∃a c,vd=.slice a done.length c:=h.1.shape;obtain⟨a1,k1,rfl⟩:∃a c,vb=.slice a base.length c:=h.2.1.shape;obtain⟨a2,k2,rfl⟩:∃a c,vt=.slice a x.length c:=h.2.2.1.shape;obtain⟨a3,k3,rfl⟩:∃a c,vu=.slice a d.length c:=h.2.2.2.1.shape;obtain⟨a4,k4,rfl⟩:∃a c,vn=.slice a y.length c:=h.2.2.2.2.shape;dsimp only at hm;have hB:Below w.heap.size w (w.alloc (.cells #[.int .i64 kn,.int .i64 sf,.slice a0 done.length k0,.slice a1 base.length k1,.slice a2 x.length k2,.slice a3 d.length k3,.slice a4 y.length k4] 67)):=by go_grown
 have B:=Blk.new w 67 #[.int .i64 kn,.int .i64 sf,.slice a0 done.length k0,.slice a1 base.length k1,.slice a2 x.length k2,.slice a3 d.length k3,.slice a4 y.length k4];obtain⟨q0,q1,q2,q3,q4,q5,q6⟩:=B.cel7;go_enter Tryz.func26,Tryz.ntmps26
 go_wp2_with fail
 clear q0 q1 q2 q3 q4 q5 q6 B;have z:=hr _ hB;generalize w.alloc (.cells #[.int .i64 kn,.int .i64 sf,.slice a0 done.length k0,.slice a1 base.length k1,.slice a2 x.length k2,.slice a3 d.length k3,.slice a4 y.length k4] 67)=W at*;refine(hm W z).mono ?_;rintro e w1 ⟨r,rfl,hq,hb⟩;replace hB:=hB.trans (hb.mono hB.size);by_cases A:r<0
 ·go_wp2
  go_ret;exact⟨_,rfl,fun h=>absurd h (by decide),hB⟩
 ·go_wp2
  go_ret;exact⟨_,rfl,hq,hB⟩
theorem q1S(kn sf:Int)(p:RepQ)(w:World)(h:repK.rd w p)(hl:RepQ.n p≤1048576):
  Calls Tryz.prog 35 #[.agg #[.int .i64 kn,.int .i64 sf,p.vd,p.vb,p.vt,p.vu,p.vn]] w fun e w'=>∃p':RepQ,e=.returned (.agg #[.int .i64 kn,.int .i64 sf,p'.vd,p'.vb,p'.vt,p'.vu,p'.vn])∧p'.e=p.e∧repK.own w' p'∧(repK.foot p').Nodup∧(∀k∈repK.foot p',w.heap.size≤k)∧Below w.heap.size w w':=by
 have hm:=fun w h=>z7O p w h hl
 have hr:=fun(w':World) hb=>repK.rd_below (w':=w') h hb
 generalize p.e=PE at*;obtain⟨vd,done,vb,base,vt,x,vu,d,vn,y⟩:=p;obtain⟨a0,k0,rfl⟩:∃a c,vd=.slice a done.length c:=h.1.shape;obtain⟨a1,k1,rfl⟩:∃a c,vb=.slice a base.length c:=h.2.1.shape;obtain⟨a2,k2,rfl⟩:∃a c,vt=.slice a x.length c:=h.2.2.1.shape;obtain⟨a3,k3,rfl⟩:∃a c,vu=.slice a d.length c:=h.2.2.2.1.shape;obtain⟨a4,k4,rfl⟩:∃a c,vn=.slice a y.length c:=h.2.2.2.2.shape;dsimp only at hm;clear hl;have hB:Below w.heap.size w (((w.alloc (.cells #[.int .i64 kn,.int .i64 sf,.slice a0 done.length k0,.slice a1 base.length k1,.slice a2 x.length k2,.slice a3 d.length k3,.slice a4 y.length k4] 67)).alloc (.cells #[.int .i64 0,.int .i64 0,.slice none 0 0,.slice none 0 0,.slice none 0 0,.slice none 0 0,.slice none 0 0] 75)).alloc (.cells #[.int .i64 kn,.int .i64 sf,.slice none 0 0,.slice none 0 0,.slice none 0 0,.slice none 0 0,.slice none 0 0] 75)):=by go_grown
 have R:=(Blk.new (w.alloc (.cells #[.int .i64 kn,.int .i64 sf,.slice a0 done.length k0,.slice a1 base.length k1,.slice a2 x.length k2,.slice a3 d.length k3,.slice a4 y.length k4] 67)) 75 #[.int .i64 0,.int .i64 0,.slice none 0 0,.slice none 0 0,.slice none 0 0,.slice none 0 0,.slice none 0 0]).below (w':=(((w.alloc (.cells #[.int .i64 kn,.int .i64 sf,.slice a0 done.length k0,.slice a1 base.length k1,.slice a2 x.length k2,.slice a3 d.length k3,.slice a4 y.length k4] 67)).alloc (.cells #[.int .i64 0,.int .i64 0,.slice none 0 0,.slice none 0 0,.slice none 0 0,.slice none 0 0,.slice none 0 0] 75)).alloc (.cells #[.int .i64 kn,.int .i64 sf,.slice none 0 0,.slice none 0 0,.slice none 0 0,.slice none 0 0,.slice none 0 0] 75))) (by go_grown);have O:=Blk.new ((w.alloc (.cells #[.int .i64 kn,.int .i64 sf,.slice a0 done.length k0,.slice a1 base.length k1,.slice a2 x.length k2,.slice a3 d.length k3,.slice a4 y.length k4] 67)).alloc (.cells #[.int .i64 0,.int .i64 0,.slice none 0 0,.slice none 0 0,.slice none 0 0,.slice none 0 0,.slice none 0 0] 75)) 75 #[.int .i64 kn,.int .i64 sf,.slice none 0 0,.slice none 0 0,.slice none 0 0,.slice none 0 0,.slice none 0 0];have hS:(((w.alloc (.cells #[.int .i64 kn,.int .i64 sf,.slice a0 done.length k0,.slice a1 base.length k1,.slice a2 x.length k2,.slice a3 d.length k3,.slice a4 y.length k4] 67)).alloc (.cells #[.int .i64 0,.int .i64 0,.slice none 0 0,.slice none 0 0,.slice none 0 0,.slice none 0 0,.slice none 0 0] 75)).alloc (.cells #[.int .i64 kn,.int .i64 sf,.slice none 0 0,.slice none 0 0,.slice none 0 0,.slice none 0 0,.slice none 0 0] 75)).heap.size=w.heap.size+3:=by simp only[World.size_alloc]
 simp only[World.size_alloc]at R O;have B:=(Blk.new w 67 #[.int .i64 kn,.int .i64 sf,.slice a0 done.length k0,.slice a1 base.length k1,.slice a2 x.length k2,.slice a3 d.length k3,.slice a4 y.length k4]).below (w':=(((w.alloc (.cells #[.int .i64 kn,.int .i64 sf,.slice a0 done.length k0,.slice a1 base.length k1,.slice a2 x.length k2,.slice a3 d.length k3,.slice a4 y.length k4] 67)).alloc (.cells #[.int .i64 0,.int .i64 0,.slice none 0 0,.slice none 0 0,.slice none 0 0,.slice none 0 0,.slice none 0 0] 75)).alloc (.cells #[.int .i64 0,.int .i64 0,.slice none 0 0,.slice none 0 0,.slice none 0 0,.slice none 0 0,.slice none 0 0] 75))) (by go_grown);obtain⟨q0,q1,q2,q3,q4,q5,q6⟩:=B.cel7;go_enter Tryz.func35,Tryz.ntmps35
 go_wp2_with fail
 clear q0 q1 q2 q3 q4 q5 q6 B;have A:=hr _ hB;generalize (((w.alloc (.cells #[.int .i64 kn,.int .i64 sf,.slice a0 done.length k0,.slice a1 base.length k1,.slice a2 x.length k2,.slice a3 d.length k3,.slice a4 y.length k4] 67)).alloc (.cells #[.int .i64 0,.int .i64 0,.slice none 0 0,.slice none 0 0,.slice none 0 0,.slice none 0 0,.slice none 0 0] 75)).alloc (.cells #[.int .i64 kn,.int .i64 sf,.slice none 0 0,.slice none 0 0,.slice none 0 0,.slice none 0 0,.slice none 0 0] 75))=W at*;refine(hm W A).mono ?_;rintro e w1 ⟨q,rfl,E0,O0,N0,G0,hb⟩;replace hB:=hB.trans (hb.mono hB.size);replace R:=R.below hb;replace O:=O.below hb;have U:=hb.size;clear hb hm hr A;obtain⟨L,qd,J,qb,N,qt,T,qu,M,qn⟩:=q;obtain⟨x0,z0,rfl⟩:∃a c,L=.slice a qd.length c:=O0.1.shape;obtain⟨x1,z1,rfl⟩:∃a c,J=.slice a qb.length c:=O0.2.1.shape;obtain⟨x2,z2,rfl⟩:∃a c,N=.slice a qt.length c:=O0.2.2.1.shape;obtain⟨x3,z3,rfl⟩:∃a c,T=.slice a qu.length c:=O0.2.2.2.1.shape;obtain⟨x4,z4,rfl⟩:∃a c,M=.slice a qn.length c:=O0.2.2.2.2.shape;have U1:=q1Q w1 (w.heap.size+1+1) (.slice x0 qd.length z0) (.slice x1 qb.length z1) (.slice x2 qt.length z2) (.slice x3 qu.length z3) (.slice x4 qn.length z4);have O2:=O.mid5 (.slice x0 qd.length z0) (.slice x1 qb.length z1) (.slice x2 qt.length z2) (.slice x3 qu.length z3) (.slice x4 qn.length z4);have R2:Blk _ _ _ _:=(U1.block _ R.lt (by simp)).trans R;have OW:=repK.own_out O0 U1 (fun k hk=>by have:=G0 k hk;simp;omega);have z:=Out.keep hB U1 hB.size (fun k hk=>by simp at hk;omega);have I:(Tryz.prog.info? 73).map (·.size)=some (#[.slice x0 qd.length z0,.slice x1 qb.length z1,.slice x2 qt.length z2,.slice x3 qu.length z3,.slice x4 qn.length z4]:Array Value).size:=by kernel_rfl
 have E:(Tryz.prog.info? 75).map (·.size)=some (#[.int .i64 kn,.int .i64 sf,.slice x0 qd.length z0,.slice x1 qb.length z1,.slice x2 qt.length z2,.slice x3 qu.length z3,.slice x4 qn.length z4]:Array Value).size:=by kernel_rfl
 generalize hV:w1.setCells (w.heap.size+1+1) 2 [.slice x0 qd.length z0,.slice x1 qb.length z1,.slice x2 qt.length z2,.slice x3 qu.length z3,.slice x4 qn.length z4]=V at*;have R3:=R2.row #[.int .i64 kn,.int .i64 sf,.slice x0 qd.length z0,.slice x1 qb.length z1,.slice x2 qt.length z2,.slice x3 qu.length z3,.slice x4 qn.length z4];have U3:=q0z V (w.heap.size+1) #[.int .i64 kn,.int .i64 sf,.slice x0 qd.length z0,.slice x1 qb.length z1,.slice x2 qt.length z2,.slice x3 qu.length z3,.slice x4 qn.length z4];have C:=repK.own_out OW U3 (fun k hk=>by have:=G0 k hk;simp;omega);have D:=Out.keep z U3 z.size (fun k hk=>by simp at hk;omega);obtain⟨q0,q1,q2,q3,q4,q5,q6⟩:=O2.cel7
 go_wp2_with (first|(refine q32 (by kernel_rfl) 73 _ _ rfl _ 2 #[.slice x0 qd.length z0,.slice x1 qb.length z1,.slice x2 qt.length z2,.slice x3 qu.length z3,.slice x4 qn.length z4] rfl rfl 75 _ O I (by simp) (by simp[Value.oneCell']) ?_;(try dsimp only);rw[hV])|(refine z1n (by kernel_rfl) 75 _ _ rfl _ #[.int .i64 kn,.int .i64 sf,.slice x0 qd.length z0,.slice x1 qb.length z1,.slice x2 qt.length z2,.slice x3 qu.length z3,.slice x4 qn.length z4] rfl rfl 75 _ R2 E rfl (by simp[Value.oneCell']) ?_))
 obtain⟨r0,r1,r2,r3,r4,r5,r6⟩:=R3.cel7;exact bodyPost_ret (v:=.agg #[.int .i64 kn,.int .i64 sf,.slice x0 qd.length z0,.slice x1 qb.length z1,.slice x2 qt.length z2,.slice x3 qu.length z3,.slice x4 qn.length z4]) (by simp[results,Tryz.results35,go_sem,r0,r1,r2,r3,r4,r5,r6]) rfl ⟨_,rfl,E0,C,N0,fun k hk=>by have:=G0 k hk;omega,D⟩
theorem q1T(kn sf:Int)(p p':RepQ)(w:World)(h:repK.rd w p)(h':repK.rd w p')(he:p.e=p'.e)(hl:RepQ.n p≤1048576):
  Calls Tryz.prog 48 #[.agg #[.int .i64 kn,.int .i64 sf,p.vd,p.vb,p.vt,p.vu,p.vn],.agg #[.int .i64 kn,.int .i64 sf,p'.vd,p'.vb,p'.vt,p'.vu,p'.vn]] w fun e w'=>e=.returned (.bool true)∧Below w.heap.size w w':=by
 have hm:=fun w h h'=>z7N p p' w h h' he hl
 have hr:=fun(w':World) hb=>repK.rd_below (w':=w') h hb
 have Z:=fun(w':World) hb=>repK.rd_below (w':=w') h' hb
 obtain⟨vd,done,vb,base,vt,C,vu,x,vn,E⟩:=p;obtain⟨a0,k0,rfl⟩:∃a c,vd=.slice a done.length c:=h.1.shape;obtain⟨a1,k1,rfl⟩:∃a c,vb=.slice a base.length c:=h.2.1.shape;obtain⟨a2,k2,rfl⟩:∃a c,vt=.slice a C.length c:=h.2.2.1.shape;obtain⟨a3,k3,rfl⟩:∃a c,vu=.slice a x.length c:=h.2.2.2.1.shape;obtain⟨a4,k4,rfl⟩:∃a c,vn=.slice a E.length c:=h.2.2.2.2.shape;obtain⟨ad,z,ab,y,af,A,ag,d,ae,D⟩:=p';obtain⟨I,O,rfl⟩:∃a c,ad=.slice a z.length c:=h'.1.shape;obtain⟨J,T,rfl⟩:∃a c,ab=.slice a y.length c:=h'.2.1.shape;obtain⟨L,U,rfl⟩:∃a c,af=.slice a A.length c:=h'.2.2.1.shape;obtain⟨M,V,rfl⟩:∃a c,ag=.slice a d.length c:=h'.2.2.2.1.shape;obtain⟨N,X,rfl⟩:∃a c,ae=.slice a D.length c:=h'.2.2.2.2.shape;dsimp only at hm;clear he hl;have hB:Below w.heap.size w ((w.alloc (.cells #[.int .i64 kn,.int .i64 sf,.slice a0 done.length k0,.slice a1 base.length k1,.slice a2 C.length k2,.slice a3 x.length k3,.slice a4 E.length k4] 75)).alloc (.cells #[.int .i64 kn,.int .i64 sf,.slice I z.length O,.slice J y.length T,.slice L A.length U,.slice M d.length V,.slice N D.length X] 75)):=by go_grown
 have B:=(Blk.new w 75 #[.int .i64 kn,.int .i64 sf,.slice a0 done.length k0,.slice a1 base.length k1,.slice a2 C.length k2,.slice a3 x.length k3,.slice a4 E.length k4]).below (w':=(w.alloc (.cells #[.int .i64 kn,.int .i64 sf,.slice a0 done.length k0,.slice a1 base.length k1,.slice a2 C.length k2,.slice a3 x.length k3,.slice a4 E.length k4] 75)).alloc (.cells #[.int .i64 kn,.int .i64 sf,.slice I z.length O,.slice J y.length T,.slice L A.length U,.slice M d.length V,.slice N D.length X] 75)) (by go_grown);have B':=Blk.new (w.alloc (.cells #[.int .i64 kn,.int .i64 sf,.slice a0 done.length k0,.slice a1 base.length k1,.slice a2 C.length k2,.slice a3 x.length k3,.slice a4 E.length k4] 75)) 75 #[.int .i64 kn,.int .i64 sf,.slice I z.length O,.slice J y.length T,.slice L A.length U,.slice M d.length V,.slice N D.length X];simp only[World.size_alloc]at B';obtain⟨q0,q1,q2,q3,q4,q5,q6⟩:=B.cel7;have s0:=B'.cell 0 _ rfl;have s1:=B'.cell 1 _ rfl;have s2:=B'.cell 2 _ rfl;have s3:=B'.cell 3 _ rfl;have s4:=B'.cell 4 _ rfl;have s5:=B'.cell 5 _ rfl;have s6:=B'.cell 6 _ rfl;have n0:(kn !=kn)=false:=by simp
 have n1:(sf !=sf)=false:=by simp
 go_enter Tryz.func48,Tryz.ntmps48
 go_wp2_with fail
 clear q0 q1 q2 q3 q4 q5 q6 s0 s1 s2 s3 s4 s5 s6 B B';have aa:=hr _ hB;have Y:=Z _ hB;generalize ((w.alloc (.cells #[.int .i64 kn,.int .i64 sf,.slice a0 done.length k0,.slice a1 base.length k1,.slice a2 C.length k2,.slice a3 x.length k3,.slice a4 E.length k4] 75)).alloc (.cells #[.int .i64 kn,.int .i64 sf,.slice I z.length O,.slice J y.length T,.slice L A.length U,.slice M d.length V,.slice N D.length X] 75))=W at*;refine(hm W aa Y).mono ?_;rintro e w3 ⟨rfl,hb⟩;replace hB:=hB.trans (hb.mono hB.size)
 go_wp2
 go_ret;exact⟨rfl,hB⟩
theorem z6X:(Tryz.prog.info? 44).map (fun i=>(i.zero,i.size,i.bytes))=some (some (.agg #[.bool false,.slice none 0 0,.slice none 0 0,.slice none 0 0]),4,80):=by kernel_rfl
theorem z5Y(v:Value)(ps:List InstQ)(c:Int)(w:World)(h:instK.At w v ps)(hn:ps.length≤9223372036854775807)(J:∀p∈ps,InstQ.wf p)(h0:0≤c)(h1:c≤1048576):
  Calls Tryz.prog 9 #[v,.int .i64 c] w fun e w'=>∃r:Int,e=.returned (.int .i64 r)∧(¬r<0→((ps.length+nmL InstQ.n ps:Nat):Int)+r=c)∧Below w.heap.size w w':=by
 obtain⟨a,cap,rfl⟩:=h.shape;by_cases U:c-ps.length<0
 ·go_enter Tryz.func9,Tryz.ntmps9
  go_wp2
  go_ret;exact⟨_,rfl,fun h=>by omega,Below.refl _ _⟩
 ·go_enter Tryz.func9,Tryz.ntmps9
  go_wp2
  go_loopw[1,5] (fun l i wr=>∃ (k:Nat) (x:Int),k≤ps.length∧i=.int .i64 k∧l=.int .i64 x∧0≤x∧x≤1048576∧Hid (ps.length+nmL InstQ.n (ps.take k)+x=c)∧Below w.heap.size w wr) (fun _ i _=>ps.length-(intOf i).toNat)
  case atStart=>exact⟨0,c-ps.length,Nat.zero_le _,rfl,by go_num,by omega,by omega,show _=_ by simp[nmL];omega,Below.refl _ _⟩
  case round=>
   obtain⟨k,x,hk,rfl,rfl,N,O,HS,hb⟩:=hrel;by_cases z:k<ps.length
   ·obtain⟨b,T,rfl,W,hc,M⟩:=(h.below hb).cell (by decide) k z;have d:∀j x,(instK.cells ps[k])[j]?=some x→wr.cell? ⟨b,T+k*4+j,none⟩=some x:=hc;have c0:=d 0 (.bool ps[k].has) rfl;have c1:=d 1 (ps[k].vb) rfl;have c2:=d 2 (ps[k].vr) rfl;have c3:=d 3 (ps[k].vd) rfl;have hs:=z2h InstQ.n ps k z;have HN:=J _ (List.getElem_mem z);have A:Hid (∀y:Int,(InstQ.n ps[k]:Int)+y=x→ps.length+nmL InstQ.n (ps.take (k+1))+y=c):=by
     intro y hy;have:=HS.out;omega
    clear HS hs hc d;generalize ps[k]=p at*;have E:=z6z p x wr M HN N O;generalize InstQ.n p=m at*;rw[Nat.add_zero]at c0
    go_wp2_with fail
    refine E.mono ?_;rintro e w2 ⟨r,rfl,hr,C⟩;replace hb:=hb.trans (C.mono hb.size);clear C E c0 c1 c2 c3;by_cases V:r<0
    ·go_wp2
     go_ret;exact⟨_,rfl,fun h=>by omega,hb⟩
    ·have D:=hr (by omega);have HR:Hid (ps.length+nmL InstQ.n (ps.take (k+1))+r=c):=A.out r D;have L:r≤1048576:=by omega
     clear A hr D
     go_wp2
     go_roundw
     case rel=>exact⟨k+1,r,by omega,by go_num,rfl,by omega,L,HR.out,hb⟩
     case measure=>simp[intOf];omega
   ·have I:k=ps.length:=by omega
    subst I;rw[List.take_length]at HS
    go_wp2
    go_ret;exact⟨_,rfl,fun _=>by have:=HS.out;omega,hb⟩
theorem z5Z(v v':Value)(ps qs:List InstQ)(w:World)(h:instK.At w v ps)(h':instK.At w v' qs)(he:ps.map InstQ.e=qs.map InstQ.e)(hl:(ps.length+nmL InstQ.n ps)≤1048576):
  Calls Tryz.prog 23 #[v,v'] w fun e w'=>e=.returned (.bool true)∧Below w.heap.size w w':=by
 obtain⟨a,cap,rfl⟩:=h.shape;obtain⟨a',T,rfl⟩:=h'.shape;have y:qs.length=ps.length:=by
  have:=congrArg List.length he;simpa using this.symm
 rw[y]at h'⊢;have HL:Hid (qs.length=ps.length):=y;clear y;go_enter Tryz.func23,Tryz.ntmps23
 go_wp2
 go_loopw[5] (fun i wr=>∃k:Nat,k≤ps.length∧i=.int .i64 k∧Below w.heap.size w wr) (fun i _=>ps.length-(intOf i).toNat)
 case atStart=>exact⟨0,Nat.zero_le _,rfl,Below.refl _ _⟩
 case round=>
  obtain⟨k,hk,rfl,hb⟩:=hrel;by_cases C:k<ps.length
  ·have z:k<qs.length:=by have:=HL.out;omega
   obtain⟨b,O,rfl,V,hc,J⟩:=(h.below hb).cell (by decide) k C;obtain⟨b',L,rfl,U,hd,A⟩:=(h'.below hb).cell (by decide) k z;have c:∀j x,(instK.cells ps[k])[j]?=some x→wr.cell? ⟨b,O+k*4+j,none⟩=some x:=hc;have d:∀j x,(instK.cells qs[k])[j]?=some x→wr.cell? ⟨b',L+k*4+j,none⟩=some x:=hd;have c0:=c 0 (.bool ps[k].has) rfl;have d0:=d 0 (.bool qs[k].has) rfl;have c1:=c 1 (ps[k].vb) rfl;have d1:=d 1 (qs[k].vb) rfl;have c2:=c 2 (ps[k].vr) rfl;have d2:=d 2 (qs[k].vr) rfl;have c3:=c 3 (ps[k].vd) rfl;have d3:=d 3 (qs[k].vd) rfl;have I:InstQ.e ps[k]=InstQ.e qs[k]:=by
    have:=congrArg (·[k]?) he;simpa[C,z]using this
   have N:=z0W InstQ.n ps k C;clear hc c hd d;generalize ps[k]=p at*;generalize qs[k]=p' at*;have D:=fun w h1 h2=>z6A p p' w h1 h2 I (show InstQ.n p≤1048576 by omega)
   clear I N;rw[Nat.add_zero]at c0 d0;have k0:=z0a c0;have l0:=z0a d0;have k1:=z0a c1;have l1:=z0a d1;have k2:=z0a c2;have l2:=z0a d2;have k3:=z0a c3;have l3:=z0a d3;clear c0 d0 c1 d1 c2 d2 c3 d3;have hW:Below wr.heap.size wr wr.drew:=(Below.refl _ _).drew;have M:Nonempty (Lat wr):=⟨⟨wr,Below.refl _ _⟩⟩
   go_wp2_with fail
   refine z0b (S:=fun w'=>∃u:Lat wr,w'=u.val) (by kernel_rfl) ?_;refine sgr [(0,8)] 2 (by kernel_rfl) ⟨⟨_,hW⟩,rfl⟩ ?_;simp only[pkE];repeat go_big_quiet_step (fail)
   refine wpQuiet_nil ?_;refine cla 8 (some 25) 47 #[.agg #[.bool p.has,p.vb,p.vr,p.vd],.agg #[.bool p'.has,p'.vb,p'.vr,p'.vd]] 1 (by kernel_rfl) ?_;refine(D _ (instK.rd_below J hW) (instK.rd_below A hW)).mono ?_;rintro e w2 ⟨rfl,E⟩;replace hW:=hW.trans (E.mono hW.size);clear E;refine⟨_,rfl,⟨⟨_,hW⟩,rfl⟩,?_⟩;simp only[Act.put,pjE];refine sgr [(9,1)] 0 (by kernel_rfl) ⟨⟨_,hW⟩,rfl⟩ ?_;simp only[pkE];repeat go_big_quiet_step (fail)
   refine wpQuiet_nil ?_;refine z0f (by kernel_rfl) ?_;replace hb:=hb.trans (hW.mono hb.size);clear k0 l0 k1 l1 k2 l2 k3 l3 hW M J A D
   go_wp2
   go_roundw
   case rel=>exact⟨k+1,by omega,by go_num,hb⟩
   case measure=>simp[intOf];omega
  ·go_wp2
   go_ret;exact⟨rfl,hb⟩
theorem z50(v:Value)(ps:List InstQ)(w:World)(h:instK.At w v ps)(hl:(ps.length+nmL InstQ.n ps)≤1048576):
  Calls Tryz.prog 16 #[v] w fun e w'=>∃v' qs,e=.returned v'∧qs.map InstQ.e=ps.map InstQ.e∧instK.Own w' v' qs∧(instK.fp v' qs).Nodup∧(∀k∈instK.fp v' qs,w.heap.size≤k)∧Below w.heap.size w w':=by
 obtain⟨a,cap,rfl⟩:=h.shape;obtain⟨i0,hi,ao,ap,aq⟩:=info_parts z6X;have M:i0.bytes*ps.length≤281474976710656:=by rw[aq];omega
 have ae:ps.length≤maxLen:=by unfold maxLen;omega
 go_enter Tryz.func16,Tryz.ntmps16
 go_wp2_with (at_make;refine wpList_make_full _ rfl _ _ 28 rfl w.heap.size 44 i0 (.agg #[.bool false,.slice none 0 0,.slice none 0 0,.slice none 0 0]) 4 Tryz.underlying28 hi ao ap _ _ _ _ ps.length rfl rfl rfl rfl M ae (Nat.le_refl _) ?_)
 intro w1 O I;have Z:Below w.heap.size w w1:=(Below.refl _ _).grown I (Nat.le_refl _) (by simp);have hO:instK.Own w1 (.slice (some ⟨w.heap.size,0,none⟩) ps.length ps.length) (List.replicate ps.length (⟨false,.slice none 0 0,[],.slice none 0 0,[],.slice none 0 0,[]⟩:InstQ)):=by
  refine⟨?_,fun p hp=>?_⟩
  ·rw[List.length_replicate,←z2M (⟨false,.slice none 0 0,[],.slice none 0 0,[],.slice none 0 0,[]⟩:InstQ) _ (by decide)];exact z0p O (Nat.zero_le _)
  ·rw[(List.mem_replicate.1 hp).2];exact⟨⟨World.ownsRow_nil _ _ _ _,fun p hp=>by simp at hp⟩,⟨World.ownsRow_nil _ _ _ _,fun p hp=>by simp at hp⟩,⟨World.ownsRow_nil _ _ _ _,fun p hp=>by simp at hp⟩⟩
 have hF:instK.fp (.slice (some ⟨w.heap.size,0,none⟩) ps.length ps.length) (List.replicate ps.length (⟨false,.slice none 0 0,[],.slice none 0 0,[],.slice none 0 0,[]⟩:InstQ))=[w.heap.size]:=z6x rfl;have HN:Hid ((instK.fp (.slice (some ⟨w.heap.size,0,none⟩) ps.length ps.length) (List.replicate ps.length (⟨false,.slice none 0 0,[],.slice none 0 0,[],.slice none 0 0,[]⟩:InstQ))).Nodup):=by rw[hF];show List.Nodup _;simp
 have HG:Hid (∀x∈instK.fp (.slice (some ⟨w.heap.size,0,none⟩) ps.length ps.length) (List.replicate ps.length (⟨false,.slice none 0 0,[],.slice none 0 0,[],.slice none 0 0,[]⟩:InstQ)),w.heap.size≤x):=by rw[hF];intro x hx;simp at hx;omega
 have HZ:Hid (∀j (hj:j<(List.replicate ps.length (⟨false,.slice none 0 0,[],.slice none 0 0,[],.slice none 0 0,[]⟩:InstQ)).length),0≤j→(List.replicate ps.length (⟨false,.slice none 0 0,[],.slice none 0 0,[],.slice none 0 0,[]⟩:InstQ))[j]=(⟨false,.slice none 0 0,[],.slice none 0 0,[],.slice none 0 0,[]⟩:InstQ)):=fun j hj _=>by simp
 have af:(List.replicate ps.length (⟨false,.slice none 0 0,[],.slice none 0 0,[],.slice none 0 0,[]⟩:InstQ)).length=ps.length:=by simp
 clear O I hF;generalize List.replicate ps.length (⟨false,.slice none 0 0,[],.slice none 0 0,[],.slice none 0 0,[]⟩:InstQ)=aj at*;have HE:Hid ((aj.take 0).map InstQ.e=(ps.take 0).map InstQ.e):=show _=_ by simp
 go_wp2
 go_loopw [4] (fun i wr=>∃ (k:Nat) (qs:List InstQ),k≤ps.length∧i=.int .i64 k∧Hid (qs.length=ps.length)∧Hid ((qs.take k).map InstQ.e=(ps.take k).map InstQ.e)∧Hid (∀ j (hj:j < qs.length),k≤j→qs[j]=(⟨false,.slice none 0 0,[],.slice none 0 0,[],.slice none 0 0,[]⟩:InstQ))∧instK.Own wr (.slice (some ⟨w.heap.size,0,none⟩) ps.length ps.length) qs ∧
  Hid ((instK.fp (.slice (some ⟨w.heap.size,0,none⟩) ps.length ps.length) qs).Nodup)∧Hid (∀ x∈instK.fp (.slice (some ⟨w.heap.size,0,none⟩) ps.length ps.length) qs,w.heap.size≤x)∧Below w.heap.size w wr) (fun i _=>ps.length - (intOf i).toNat)
 case atStart=>exact⟨0,aj,Nat.zero_le _,rfl,af,HE,HZ,hO,HN,HG,Z⟩
 case round=>
  clear HE HZ hO HN HG Z af;obtain⟨k,qs,hk,rfl,HQ,HE,HZ,hO,HN,HG,hb⟩:=hrel;by_cases W:k<ps.length
  ·have c:k<qs.length:=by have:=HQ.out;omega
   have D:=HZ.out k c (Nat.le_refl _);obtain⟨b,ar,rfl,au,hc,ag⟩:=(h.below hb).cell (by decide) k W;have E:∀j x,(instK.cells ps[k])[j]?=some x→wr.cell? ⟨b,ar+k*4+j,none⟩=some x:=hc;have c0:=E 0 (.bool ps[k].has) rfl;have c1:=E 1 (ps[k].vb) rfl;have c2:=E 2 (ps[k].vr) rfl;have c3:=E 3 (ps[k].vd) rfl;have ax:=z0W InstQ.n ps k W;have Y:Hid (∀p':InstQ,p'.e=InstQ.e ps[k]→((qs.set k p').take (k+1)).map InstQ.e=(ps.take (k+1)).map InstQ.e):=by
    intro p' am;have h1:=HE.out;rw[List.take_succ_eq_append_getElem W,List.take_succ_eq_append_getElem (show k<(qs.set k p').length by simpa using c)];simp only[List.map_append,List.map_cons,List.map_nil,List.getElem_set_self,am,List.take_set_of_le (Nat.le_refl k),h1]
   clear hc E;generalize ps[k]=p at*;have ah:=z6B p wr ag (by omega);rw[Nat.add_zero]at c0
   go_wp2_with fail
   refine ah.mono ?_;rintro e w2 ⟨p',rfl,X,d,J,y,aa⟩;obtain⟨x0,x1,y1,x2,y2,x3,y3⟩:=p';obtain⟨o1,o2,o3⟩:txnK.Own w2 x1 y1∧roundK.Own w2 x2 y2∧intK.Own w2 x3 y3:=And.intro d.1 d.2;obtain⟨a1,b1,rfl⟩:=o1.shape;obtain⟨a2,b2,rfl⟩:=o2.shape;obtain⟨a3,b3,rfl⟩:=o3.shape;clear o1 o2 o3;dsimp only;generalize hP:(⟨x0,.slice a1 y1.length b1,y1,.slice a2 y2.length b2,y2,.slice a3 y3.length b3,y3⟩:InstQ)=p' at X d J y;have U:instK.cells p'=[.bool x0,.slice a1 y1.length b1,.slice a2 y2.length b2,.slice a3 y3.length b3]:=by rw[←hP];rfl
   have z:=hO.below aa;obtain⟨e0,f0⟩:=z.cell k c 0 _ (by rw[D];rfl);obtain⟨e1,f1⟩:=z.cell k c 1 _ (by rw[D];rfl);obtain⟨e2,f2⟩:=z.cell k c 2 _ (by rw[D];rfl);obtain⟨e3,f3⟩:=z.cell k c 3 _ (by rw[D];rfl);have ad:∀j,k*instK.size+j=k*4+j:=fun j=>rfl
   rw[ad]at e0 f0 e1 f1 e2 f2 e3 f3;rw[Nat.add_zero]at e0 f0;have A:=z.1;have hQ:=HQ.out;rw[hQ]at A;have C:=z1m A (k*4) [.bool x0,.slice a1 y1.length b1,.slice a2 y2.length b2,.slice a3 y3.length b3];rw[←U]at C;have V:∀x∈instK.fp (.slice (some ⟨w.heap.size,0,none⟩) ps.length ps.length) qs,x<wr.heap.size:=hO.lt;have ab:w.heap.size∈instK.fp (.slice (some ⟨w.heap.size,0,none⟩) ps.length ps.length) qs:=by simp[Kind.fp,blk,Value.ownBlock]
   have av:w.heap.size<wr.heap.size:=V _ ab;have L:=HN.out;have N:∀x∈instK.foot p',x∉instK.fp (.slice (some ⟨w.heap.size,0,none⟩) ps.length ps.length) qs:=fun x hx an=>by have:=y x hx;have:=V x an;omega
   have T:instK.Own ((((w2.setCell ⟨w.heap.size,k*4,none⟩ (.bool x0)).setCell ⟨w.heap.size,k*4+1,none⟩ (.slice a1 y1.length b1)).setCell ⟨w.heap.size,k*4+2,none⟩ (.slice a2 y2.length b2)).setCell ⟨w.heap.size,k*4+3,none⟩ (.slice a3 y3.length b3)) (.slice (some ⟨w.heap.size,0,none⟩) ps.length ps.length) (qs.set k p'):=by
    refine Kind.Own.put z k c p' ?_ ((((Out.setCell _ _ _ _).trans (Out.setCell _ _ _ _)).trans (Out.setCell _ _ _ _)).trans (Out.setCell _ _ _ _)) ?_ d ?_
    ·rw[hQ];rw[U]at C⊢;exact C
    ·intro q hq x hx ai;simp only[Kind.fp,blk,Value.ownBlock,Option.toList,List.cons_append,List.nil_append,List.nodup_cons]at L;exact L.1 (List.mem_flatMap.2 ⟨q,hq,ai▸hx⟩)
    ·intro x hx ai;have:=y x hx;omega
   have R:Hid (instK.Own ((((w2.setCell ⟨w.heap.size,k*4,none⟩ (.bool x0)).setCell ⟨w.heap.size,k*4+1,none⟩ (.slice a1 y1.length b1)).setCell ⟨w.heap.size,k*4+2,none⟩ (.slice a2 y2.length b2)).setCell ⟨w.heap.size,k*4+3,none⟩ (.slice a3 y3.length b3)) (.slice (some ⟨w.heap.size,0,none⟩) ps.length ps.length) (qs.set k p')∧Below w.heap.size w ((((w2.setCell ⟨w.heap.size,k*4,none⟩ (.bool x0)).setCell ⟨w.heap.size,k*4+1,none⟩ (.slice a1 y1.length b1)).setCell ⟨w.heap.size,k*4+2,none⟩ (.slice a2 y2.length b2)).setCell ⟨w.heap.size,k*4+3,none⟩ (.slice a3 y3.length b3))):=by
    refine⟨T,?_⟩;have ak:=hb.trans (aa.mono hb.size);exact((((ak.setCell (p:=⟨w.heap.size,k*4,none⟩) (Nat.le_refl _) _).setCell (p:=⟨w.heap.size,k*4+1,none⟩) (Nat.le_refl _) _).setCell (p:=⟨w.heap.size,k*4+2,none⟩) (Nat.le_refl _) _).setCell (p:=⟨w.heap.size,k*4+3,none⟩) (Nat.le_refl _) _)
   have R1:Hid ((instK.fp (.slice (some ⟨w.heap.size,0,none⟩) ps.length ps.length) (qs.set k p')).Nodup):=z12 L k c p' (by rw[D];rfl) J N;have R2:Hid (∀x∈instK.fp (.slice (some ⟨w.heap.size,0,none⟩) ps.length ps.length) (qs.set k p'),w.heap.size≤x):=by
    intro x hx;simp only[Kind.fp,List.mem_append]at hx;rcases hx with hx|hx
    ·exact HG.out x (by simp only[Kind.fp,List.mem_append];exact Or.inl hx)
    ·rcases z1e c hx with hx|hx
     ·exact HG.out x (by simp only[Kind.fp,List.mem_append];exact Or.inr hx)
     ·have:=y x hx;omega
   have R3:Hid (∀j (hj:j<(qs.set k p').length),k+1≤j→(qs.set k p')[j]=(⟨false,.slice none 0 0,[],.slice none 0 0,[],.slice none 0 0,[]⟩:InstQ)):=fun j hj aw=>by
    rw[List.getElem_set_ne (by omega)];exact HZ.out j (by simpa using hj) (by omega)
   have R4:Hid ((qs.set k p').length=ps.length):=by rw[List.length_set];exact HQ.out
   have R5:Hid (((qs.set k p').take (k+1)).map InstQ.e=(ps.take (k+1)).map InstQ.e):=Y.out p' X;clear T C A hQ z hO HN HG HZ HE HQ Y L N d J y V ab hb D ag ah X ad U hP
   go_wp2
   go_roundw
   case rel=>exact⟨k+1,qs.set k p',by omega,by go_num,R4.out,R5.out,R3.out,R.out.1,R1.out,R2.out,R.out.2⟩
   case measure=>simp[intOf];omega
  ·have al:k=ps.length:=by omega
   subst al;have hQ:=HQ.out;have hE:=HE.out;rw[List.take_length,List.take_of_length_le (by omega)]at hE;clear HE HZ
   go_wp2
   go_ret;exact⟨_,qs,rfl,hE,hO,HN.out,HG.out,hb⟩
structure NodeQ where
 kn:Int
 sf:Int
 vd:Value
 done:List TxnQ
 vb:Value
 base:List ItemD
 vt:Value
 tent:List TxnQ
 vu:Value
 undos:List USQ
 vn:Value
 now:List ItemD
structure NodeE where
 kn:Int
 sf:Int
 rep:RepE
def NodeQ.r(p:NodeQ):RepQ:=⟨p.vd,p.done,p.vb,p.base,p.vt,p.tent,p.vu,p.undos,p.vn,p.now⟩
def NodeQ.of(kn sf:Int)(r:RepQ):NodeQ:=⟨kn,sf,r.vd,r.done,r.vb,r.base,r.vt,r.tent,r.vu,r.undos,r.vn,r.now⟩
def NodeQ.e(p:NodeQ):NodeE:=⟨p.kn,p.sf,p.r.e⟩
def NodeQ.n(p:NodeQ):Nat:=p.r.n
def NodeQ.wf(p:NodeQ):Prop:=p.r.wf
def nodeK:Kind NodeQ where
 ty:=75
 size:=7
 cells p:=[.int .i64 p.kn,.int .i64 p.sf,p.vd,p.vb,p.vt,p.vu,p.vn]
 own w p:=repK.own w p.r
 rd w p:=repK.rd w p.r
 foot p:=repK.foot p.r
 len _:=rfl
 own_rd h:=repK.own_rd h
 own_out h ho hd:=repK.own_out h ho hd
 own_lt h:=repK.own_lt h
 rd_below h hb:=repK.rd_below h hb
theorem z9f:(Tryz.prog.info? 75).map (fun i=>(i.zero,i.size,i.bytes))=some (some (.agg #[.int .i64 0,.int .i64 0,.slice none 0 0,.slice none 0 0,.slice none 0 0,.slice none 0 0,.slice none 0 0]),7,136):=by kernel_rfl
theorem q1U(p:NodeQ)(c:Int)(w:World)(h:nodeK.rd w p)(hn:NodeQ.wf p)(h0:0≤c)(h1:c≤1048576):
  Calls Tryz.prog 26 #[.agg #[.int .i64 p.kn,.int .i64 p.sf,p.vd,p.vb,p.vt,p.vu,p.vn],.int .i64 c] w fun e w'=>∃r:Int,e=.returned (.int .i64 r)∧(¬r<0→(NodeQ.n p:Int)+r=c)∧Below w.heap.size w w':=
 q1R p.kn p.sf p.r c w h hn h0 h1
theorem q1V(p p':NodeQ)(w:World)(h:nodeK.rd w p)(h':nodeK.rd w p')(he:p.e=p'.e)(hl:NodeQ.n p≤1048576):
  Calls Tryz.prog 48 #[.agg #[.int .i64 p.kn,.int .i64 p.sf,p.vd,p.vb,p.vt,p.vu,p.vn],.agg #[.int .i64 p'.kn,.int .i64 p'.sf,p'.vd,p'.vb,p'.vt,p'.vu,p'.vn]] w fun e w'=>e=.returned (.bool true)∧Below w.heap.size w w':=by
 simp only[NodeQ.e,NodeE.mk.injEq]at he;obtain⟨e1,e2,e3⟩:=he;rw[←e1,←e2];exact q1T p.kn p.sf p.r p'.r w h h' e3 hl
theorem q1W(p:NodeQ)(w:World)(h:nodeK.rd w p)(hl:NodeQ.n p≤1048576):
  Calls Tryz.prog 35 #[.agg #[.int .i64 p.kn,.int .i64 p.sf,p.vd,p.vb,p.vt,p.vu,p.vn]] w fun e w'=>∃p':NodeQ,e=.returned (.agg #[.int .i64 p'.kn,.int .i64 p'.sf,p'.vd,p'.vb,p'.vt,p'.vu,p'.vn])∧p'.e=p.e∧nodeK.own w' p'∧(nodeK.foot p').Nodup∧(∀k∈nodeK.foot p',w.heap.size≤k)∧Below w.heap.size w w':=by
 refine(q1S p.kn p.sf p.r w h hl).mono ?_;rintro e w' ⟨q,rfl,hE,hO,hN,hG,hb⟩;refine⟨NodeQ.of p.kn p.sf q,rfl,?_,hO,hN,hG,hb⟩;show(⟨p.kn,p.sf,q.e⟩:NodeE)=⟨p.kn,p.sf,p.r.e⟩
 rw[hE]
theorem q0A(v:Value)(ps:List NodeQ)(c:Int)(w:World)(h:nodeK.At w v ps)(hn:ps.length≤9223372036854775807)(J:∀p∈ps,NodeQ.wf p)(h0:0≤c)(h1:c≤1048576):
  Calls Tryz.prog 10 #[v,.int .i64 c] w fun e w'=>∃r:Int,e=.returned (.int .i64 r)∧(¬r<0→((ps.length+nmL NodeQ.n ps:Nat):Int)+r=c)∧Below w.heap.size w w':=by
 obtain⟨a,cap,rfl⟩:=h.shape;by_cases U:c-ps.length<0
 ·go_enter Tryz.func10,Tryz.ntmps10
  go_wp2
  go_ret;exact⟨_,rfl,fun h=>by omega,Below.refl _ _⟩
 ·go_enter Tryz.func10,Tryz.ntmps10
  go_wp2
  go_loopw[1,5] (fun l i wr=>∃ (k:Nat) (x:Int),k≤ps.length∧i=.int .i64 k∧l=.int .i64 x∧0≤x∧x≤1048576∧Hid (ps.length+nmL NodeQ.n (ps.take k)+x=c)∧Below w.heap.size w wr) (fun _ i _=>ps.length-(intOf i).toNat)
  case atStart=>exact⟨0,c-ps.length,Nat.zero_le _,rfl,by go_num,by omega,by omega,show _=_ by simp[nmL];omega,Below.refl _ _⟩
  case round=>
   obtain⟨k,x,hk,rfl,rfl,N,O,HS,hb⟩:=hrel;by_cases z:k<ps.length
   ·obtain⟨b,T,rfl,W,hc,M⟩:=(h.below hb).cell (by decide) k z;have d:∀j x,(nodeK.cells ps[k])[j]?=some x→wr.cell? ⟨b,T+k*7+j,none⟩=some x:=hc;have c0:=d 0 (.int .i64 ps[k].kn) rfl;have c1:=d 1 (.int .i64 ps[k].sf) rfl;have c2:=d 2 (ps[k].vd) rfl;have c3:=d 3 (ps[k].vb) rfl;have c4:=d 4 (ps[k].vt) rfl;have c5:=d 5 (ps[k].vu) rfl;have c6:=d 6 (ps[k].vn) rfl;have hs:=z2h NodeQ.n ps k z;have HN:=J _ (List.getElem_mem z);have A:Hid (∀y:Int,(NodeQ.n ps[k]:Int)+y=x→ps.length+nmL NodeQ.n (ps.take (k+1))+y=c):=by
     intro y hy;have:=HS.out;omega
    clear HS hs hc d;generalize ps[k]=p at*;have E:=q1U p x wr M HN N O;generalize NodeQ.n p=m at*;rw[Nat.add_zero]at c0
    go_wp2_with fail
    refine E.mono ?_;rintro e w2 ⟨r,rfl,hr,C⟩;replace hb:=hb.trans (C.mono hb.size);clear C E c0 c1 c2 c3 c4 c5 c6;by_cases V:r<0
    ·go_wp2
     go_ret;exact⟨_,rfl,fun h=>by omega,hb⟩
    ·have D:=hr (by omega);have HR:Hid (ps.length+nmL NodeQ.n (ps.take (k+1))+r=c):=A.out r D;have L:r≤1048576:=by omega
     clear A hr D
     go_wp2
     go_roundw
     case rel=>exact⟨k+1,r,by omega,by go_num,rfl,by omega,L,HR.out,hb⟩
     case measure=>simp[intOf];omega
   ·have I:k=ps.length:=by omega
    subst I;rw[List.take_length]at HS
    go_wp2
    go_ret;exact⟨_,rfl,fun _=>by have:=HS.out;omega,hb⟩
theorem q0B(v v':Value)(ps qs:List NodeQ)(w:World)(h:nodeK.At w v ps)(h':nodeK.At w v' qs)(he:ps.map NodeQ.e=qs.map NodeQ.e)(hl:(ps.length+nmL NodeQ.n ps)≤1048576):
  Calls Tryz.prog 24 #[v,v'] w fun e w'=>e=.returned (.bool true)∧Below w.heap.size w w':=by
 obtain⟨a,cap,rfl⟩:=h.shape;obtain⟨a',T,rfl⟩:=h'.shape;have y:qs.length=ps.length:=by
  have:=congrArg List.length he;simpa using this.symm
 rw[y]at h'⊢;have HL:Hid (qs.length=ps.length):=y;clear y;go_enter Tryz.func24,Tryz.ntmps24
 go_wp2
 go_loopw[5] (fun i wr=>∃k:Nat,k≤ps.length∧i=.int .i64 k∧Below w.heap.size w wr) (fun i _=>ps.length-(intOf i).toNat)
 case atStart=>exact⟨0,Nat.zero_le _,rfl,Below.refl _ _⟩
 case round=>
  obtain⟨k,hk,rfl,hb⟩:=hrel;by_cases C:k<ps.length
  ·have z:k<qs.length:=by have:=HL.out;omega
   obtain⟨b,O,rfl,V,hc,J⟩:=(h.below hb).cell (by decide) k C;obtain⟨b',L,rfl,U,hd,A⟩:=(h'.below hb).cell (by decide) k z;have c:∀j x,(nodeK.cells ps[k])[j]?=some x→wr.cell? ⟨b,O+k*7+j,none⟩=some x:=hc;have d:∀j x,(nodeK.cells qs[k])[j]?=some x→wr.cell? ⟨b',L+k*7+j,none⟩=some x:=hd;have c0:=c 0 (.int .i64 ps[k].kn) rfl;have d0:=d 0 (.int .i64 qs[k].kn) rfl;have c1:=c 1 (.int .i64 ps[k].sf) rfl;have d1:=d 1 (.int .i64 qs[k].sf) rfl;have c2:=c 2 (ps[k].vd) rfl;have d2:=d 2 (qs[k].vd) rfl;have c3:=c 3 (ps[k].vb) rfl;have d3:=d 3 (qs[k].vb) rfl;have c4:=c 4 (ps[k].vt) rfl;have d4:=d 4 (qs[k].vt) rfl;have c5:=c 5 (ps[k].vu) rfl;have d5:=d 5 (qs[k].vu) rfl;have c6:=c 6 (ps[k].vn) rfl;have d6:=d 6 (qs[k].vn) rfl;have I:NodeQ.e ps[k]=NodeQ.e qs[k]:=by
    have:=congrArg (·[k]?) he;simpa[C,z]using this
   have N:=z0W NodeQ.n ps k C;clear hc c hd d;generalize ps[k]=p at*;generalize qs[k]=p' at*;have D:=fun w h1 h2=>q1V p p' w h1 h2 I (show NodeQ.n p≤1048576 by omega)
   clear I N;rw[Nat.add_zero]at c0 d0;have k0:=z0a c0;have l0:=z0a d0;have k1:=z0a c1;have l1:=z0a d1;have k2:=z0a c2;have l2:=z0a d2;have k3:=z0a c3;have l3:=z0a d3;have k4:=z0a c4;have l4:=z0a d4;have k5:=z0a c5;have l5:=z0a d5;have k6:=z0a c6;have l6:=z0a d6;clear c0 d0 c1 d1 c2 d2 c3 d3 c4 d4 c5 d5 c6 d6;have hW:Below wr.heap.size wr wr.drew:=(Below.refl _ _).drew;have M:Nonempty (Lat wr):=⟨⟨wr,Below.refl _ _⟩⟩
   go_wp2_with fail
   refine z0b (S:=fun w'=>∃u:Lat wr,w'=u.val) (by kernel_rfl) ?_;refine sgr [(0,8)] 2 (by kernel_rfl) ⟨⟨_,hW⟩,rfl⟩ ?_;simp only[pkE];repeat go_big_quiet_step (fail)
   refine wpQuiet_nil ?_;refine cla 8 (some 25) 48 #[.agg #[.int .i64 p.kn,.int .i64 p.sf,p.vd,p.vb,p.vt,p.vu,p.vn],.agg #[.int .i64 p'.kn,.int .i64 p'.sf,p'.vd,p'.vb,p'.vt,p'.vu,p'.vn]] 1 (by kernel_rfl) ?_;refine(D _ (nodeK.rd_below J hW) (nodeK.rd_below A hW)).mono ?_;rintro e w2 ⟨rfl,E⟩;replace hW:=hW.trans (E.mono hW.size);clear E;refine⟨_,rfl,⟨⟨_,hW⟩,rfl⟩,?_⟩;simp only[Act.put,pjE];refine sgr [(9,1)] 0 (by kernel_rfl) ⟨⟨_,hW⟩,rfl⟩ ?_;simp only[pkE];repeat go_big_quiet_step (fail)
   refine wpQuiet_nil ?_;refine z0f (by kernel_rfl) ?_;replace hb:=hb.trans (hW.mono hb.size);clear k0 l0 k1 l1 k2 l2 k3 l3 k4 l4 k5 l5 k6 l6 hW M J A D
   go_wp2
   go_roundw
   case rel=>exact⟨k+1,by omega,by go_num,hb⟩
   case measure=>simp[intOf];omega
  ·go_wp2
   go_ret;exact⟨rfl,hb⟩
theorem q0C(v:Value)(ps:List NodeQ)(w:World)(h:nodeK.At w v ps)(hl:(ps.length+nmL NodeQ.n ps)≤1048576):
  Calls Tryz.prog 17 #[v] w fun e w'=>∃v' qs,e=.returned v'∧qs.map NodeQ.e=ps.map NodeQ.e∧nodeK.Own w' v' qs∧(nodeK.fp v' qs).Nodup∧(∀k∈nodeK.fp v' qs,w.heap.size≤k)∧Below w.heap.size w w':=by
 obtain⟨a,cap,rfl⟩:=h.shape;obtain⟨i0,hi,ao,ap,aq⟩:=info_parts z9f;have M:i0.bytes*ps.length≤281474976710656:=by rw[aq];omega
 have ae:ps.length≤maxLen:=by unfold maxLen;omega
 go_enter Tryz.func17,Tryz.ntmps17
 go_wp2_with (at_make;refine wpList_make_full _ rfl _ _ 29 rfl w.heap.size 75 i0 (.agg #[.int .i64 0,.int .i64 0,.slice none 0 0,.slice none 0 0,.slice none 0 0,.slice none 0 0,.slice none 0 0]) 7 Tryz.underlying29 hi ao ap _ _ _ _ ps.length rfl rfl rfl rfl M ae (Nat.le_refl _) ?_)
 intro w1 O I;have Z:Below w.heap.size w w1:=(Below.refl _ _).grown I (Nat.le_refl _) (by simp);have hO:nodeK.Own w1 (.slice (some ⟨w.heap.size,0,none⟩) ps.length ps.length) (List.replicate ps.length (⟨0,0,.slice none 0 0,[],.slice none 0 0,[],.slice none 0 0,[],.slice none 0 0,[],.slice none 0 0,[]⟩:NodeQ)):=by
  refine⟨?_,fun p hp=>?_⟩
  ·rw[List.length_replicate,←z2M (⟨0,0,.slice none 0 0,[],.slice none 0 0,[],.slice none 0 0,[],.slice none 0 0,[],.slice none 0 0,[]⟩:NodeQ) _ (by decide)];exact z0p O (Nat.zero_le _)
  ·rw[(List.mem_replicate.1 hp).2];exact⟨(Kind.own_nil _).1,(Kind.own_nil _).1,(Kind.own_nil _).1,(Kind.own_nil _).1,(Kind.own_nil _).1⟩
 have hF:nodeK.fp (.slice (some ⟨w.heap.size,0,none⟩) ps.length ps.length) (List.replicate ps.length (⟨0,0,.slice none 0 0,[],.slice none 0 0,[],.slice none 0 0,[],.slice none 0 0,[],.slice none 0 0,[]⟩:NodeQ))=[w.heap.size]:=z6x rfl;have HN:Hid ((nodeK.fp (.slice (some ⟨w.heap.size,0,none⟩) ps.length ps.length) (List.replicate ps.length (⟨0,0,.slice none 0 0,[],.slice none 0 0,[],.slice none 0 0,[],.slice none 0 0,[],.slice none 0 0,[]⟩:NodeQ))).Nodup):=by rw[hF];show List.Nodup _;simp
 have HG:Hid (∀x∈nodeK.fp (.slice (some ⟨w.heap.size,0,none⟩) ps.length ps.length) (List.replicate ps.length (⟨0,0,.slice none 0 0,[],.slice none 0 0,[],.slice none 0 0,[],.slice none 0 0,[],.slice none 0 0,[]⟩:NodeQ)),w.heap.size≤x):=by rw[hF];intro x hx;simp at hx;omega
 have HZ:Hid (∀j (hj:j<(List.replicate ps.length (⟨0,0,.slice none 0 0,[],.slice none 0 0,[],.slice none 0 0,[],.slice none 0 0,[],.slice none 0 0,[]⟩:NodeQ)).length),0≤j→(List.replicate ps.length (⟨0,0,.slice none 0 0,[],.slice none 0 0,[],.slice none 0 0,[],.slice none 0 0,[],.slice none 0 0,[]⟩:NodeQ))[j]=(⟨0,0,.slice none 0 0,[],.slice none 0 0,[],.slice none 0 0,[],.slice none 0 0,[],.slice none 0 0,[]⟩:NodeQ)):=fun j hj _=>by simp
 have af:(List.replicate ps.length (⟨0,0,.slice none 0 0,[],.slice none 0 0,[],.slice none 0 0,[],.slice none 0 0,[],.slice none 0 0,[]⟩:NodeQ)).length=ps.length:=by simp
 clear O I hF;generalize List.replicate ps.length (⟨0,0,.slice none 0 0,[],.slice none 0 0,[],.slice none 0 0,[],.slice none 0 0,[],.slice none 0 0,[]⟩:NodeQ)=aj at*;have HE:Hid ((aj.take 0).map NodeQ.e=(ps.take 0).map NodeQ.e):=show _=_ by simp
 go_wp2
 go_loopw [4] (fun i wr=>∃ (k:Nat) (qs:List NodeQ),k≤ps.length∧i=.int .i64 k∧Hid (qs.length=ps.length)∧Hid ((qs.take k).map NodeQ.e=(ps.take k).map NodeQ.e)∧Hid (∀ j (hj:j < qs.length),k≤j→qs[j]=(⟨0,0,.slice none 0 0,[],.slice none 0 0,[],.slice none 0 0,[],.slice none 0 0,[],.slice none 0 0,[]⟩:NodeQ))∧nodeK.Own wr (.slice (some ⟨w.heap.size,0,none⟩) ps.length ps.length) qs ∧
  Hid ((nodeK.fp (.slice (some ⟨w.heap.size,0,none⟩) ps.length ps.length) qs).Nodup)∧Hid (∀ x∈nodeK.fp (.slice (some ⟨w.heap.size,0,none⟩) ps.length ps.length) qs,w.heap.size≤x)∧Below w.heap.size w wr) (fun i _=>ps.length - (intOf i).toNat)
 case atStart=>exact⟨0,aj,Nat.zero_le _,rfl,af,HE,HZ,hO,HN,HG,Z⟩
 case round=>
  clear HE HZ hO HN HG Z af;obtain⟨k,qs,hk,rfl,HQ,HE,HZ,hO,HN,HG,hb⟩:=hrel;by_cases W:k<ps.length
  ·have c:k<qs.length:=by have:=HQ.out;omega
   have z:=HZ.out k c (Nat.le_refl _);obtain⟨b,ar,rfl,au,hc,ag⟩:=(h.below hb).cell (by decide) k W;have A:∀j x,(nodeK.cells ps[k])[j]?=some x→wr.cell? ⟨b,ar+k*7+j,none⟩=some x:=hc;have c0:=A 0 (.int .i64 ps[k].kn) rfl;have c1:=A 1 (.int .i64 ps[k].sf) rfl;have c2:=A 2 (ps[k].vd) rfl;have c3:=A 3 (ps[k].vb) rfl;have c4:=A 4 (ps[k].vt) rfl;have c5:=A 5 (ps[k].vu) rfl;have c6:=A 6 (ps[k].vn) rfl;have ax:=z0W NodeQ.n ps k W;have Y:Hid (∀p':NodeQ,p'.e=NodeQ.e ps[k]→((qs.set k p').take (k+1)).map NodeQ.e=(ps.take (k+1)).map NodeQ.e):=by
    intro p' am;have h1:=HE.out;rw[List.take_succ_eq_append_getElem W,List.take_succ_eq_append_getElem (show k<(qs.set k p').length by simpa using c)];simp only[List.map_append,List.map_cons,List.map_nil,List.getElem_set_self,am,List.take_set_of_le (Nat.le_refl k),h1]
   clear hc A;generalize ps[k]=p at*;have ah:=q1W p wr ag (by omega);rw[Nat.add_zero]at c0
   go_wp2_with fail
   refine ah.mono ?_;rintro e w2 ⟨p',rfl,X,y,J,C,aa⟩;obtain⟨x0,x1,x2,y2,x3,y3,x4,y4,x5,y5,x6,y6⟩:=p';obtain⟨o2,o3,o4,o5,o6⟩:txnK.Own w2 x2 y2∧itemK.Own w2 x3 y3∧txnK.Own w2 x4 y4∧ussK.Own w2 x5 y5∧itemK.Own w2 x6 y6:=id y;obtain⟨a2,b2,rfl⟩:=o2.shape;obtain⟨a3,b3,rfl⟩:=o3.shape;obtain⟨a4,b4,rfl⟩:=o4.shape;obtain⟨a5,b5,rfl⟩:=o5.shape;obtain⟨a6,b6,rfl⟩:=o6.shape;clear o2 o3 o4 o5 o6;dsimp only;generalize hP:(⟨x0,x1,.slice a2 y2.length b2,y2,.slice a3 y3.length b3,y3,.slice a4 y4.length b4,y4,.slice a5 y5.length b5,y5,.slice a6 y6.length b6,y6⟩:NodeQ)=p' at X y J C;have U:nodeK.cells p'=[.int .i64 x0,.int .i64 x1,.slice a2 y2.length b2,.slice a3 y3.length b3,.slice a4 y4.length b4,.slice a5 y5.length b5,.slice a6 y6.length b6]:=by rw[←hP];rfl
   have d:=hO.below aa;obtain⟨e0,f0⟩:=d.cell k c 0 _ (by rw[z];rfl);obtain⟨e1,f1⟩:=d.cell k c 1 _ (by rw[z];rfl);obtain⟨e2,f2⟩:=d.cell k c 2 _ (by rw[z];rfl);obtain⟨e3,f3⟩:=d.cell k c 3 _ (by rw[z];rfl);obtain⟨e4,f4⟩:=d.cell k c 4 _ (by rw[z];rfl);obtain⟨e5,f5⟩:=d.cell k c 5 _ (by rw[z];rfl);obtain⟨e6,f6⟩:=d.cell k c 6 _ (by rw[z];rfl);have ad:∀j,k*nodeK.size+j=k*7+j:=fun j=>rfl
   rw[ad]at e0 f0 e1 f1 e2 f2 e3 f3 e4 f4 e5 f5 e6 f6;rw[Nat.add_zero]at e0 f0;have D:=d.1;have hQ:=HQ.out;rw[hQ]at D;have E:=z1m D (k*7) [.int .i64 x0,.int .i64 x1,.slice a2 y2.length b2,.slice a3 y3.length b3,.slice a4 y4.length b4,.slice a5 y5.length b5,.slice a6 y6.length b6];rw[←U]at E;have V:∀x∈nodeK.fp (.slice (some ⟨w.heap.size,0,none⟩) ps.length ps.length) qs,x<wr.heap.size:=hO.lt;have ab:w.heap.size∈nodeK.fp (.slice (some ⟨w.heap.size,0,none⟩) ps.length ps.length) qs:=by simp[Kind.fp,blk,Value.ownBlock]
   have av:w.heap.size<wr.heap.size:=V _ ab;have L:=HN.out;have N:∀x∈nodeK.foot p',x∉nodeK.fp (.slice (some ⟨w.heap.size,0,none⟩) ps.length ps.length) qs:=fun x hx an=>by have:=C x hx;have:=V x an;omega
   have T:nodeK.Own (((((((w2.setCell ⟨w.heap.size,k*7,none⟩ (.int .i64 x0)).setCell ⟨w.heap.size,k*7+1,none⟩ (.int .i64 x1)).setCell ⟨w.heap.size,k*7+2,none⟩ (.slice a2 y2.length b2)).setCell ⟨w.heap.size,k*7+3,none⟩ (.slice a3 y3.length b3)).setCell ⟨w.heap.size,k*7+4,none⟩ (.slice a4 y4.length b4)).setCell ⟨w.heap.size,k*7+5,none⟩ (.slice a5 y5.length b5)).setCell ⟨w.heap.size,k*7+6,none⟩ (.slice a6 y6.length b6)) (.slice (some ⟨w.heap.size,0,none⟩) ps.length ps.length) (qs.set k p'):=by
    refine Kind.Own.put d k c p' ?_ (((((((Out.setCell _ _ _ _).trans (Out.setCell _ _ _ _)).trans (Out.setCell _ _ _ _)).trans (Out.setCell _ _ _ _)).trans (Out.setCell _ _ _ _)).trans (Out.setCell _ _ _ _)).trans (Out.setCell _ _ _ _)) ?_ y ?_
    ·rw[hQ];rw[U]at E⊢;exact E
    ·intro q hq x hx ai;simp only[Kind.fp,blk,Value.ownBlock,Option.toList,List.cons_append,List.nil_append,List.nodup_cons]at L;exact L.1 (List.mem_flatMap.2 ⟨q,hq,ai▸hx⟩)
    ·intro x hx ai;have:=C x hx;omega
   have R:Hid (nodeK.Own (((((((w2.setCell ⟨w.heap.size,k*7,none⟩ (.int .i64 x0)).setCell ⟨w.heap.size,k*7+1,none⟩ (.int .i64 x1)).setCell ⟨w.heap.size,k*7+2,none⟩ (.slice a2 y2.length b2)).setCell ⟨w.heap.size,k*7+3,none⟩ (.slice a3 y3.length b3)).setCell ⟨w.heap.size,k*7+4,none⟩ (.slice a4 y4.length b4)).setCell ⟨w.heap.size,k*7+5,none⟩ (.slice a5 y5.length b5)).setCell ⟨w.heap.size,k*7+6,none⟩ (.slice a6 y6.length b6)) (.slice (some ⟨w.heap.size,0,none⟩) ps.length ps.length) (qs.set k p')∧Below w.heap.size w (((((((w2.setCell ⟨w.heap.size,k*7,none⟩ (.int .i64 x0)).setCell ⟨w.heap.size,k*7+1,none⟩ (.int .i64 x1)).setCell ⟨w.heap.size,k*7+2,none⟩ (.slice a2 y2.length b2)).setCell ⟨w.heap.size,k*7+3,none⟩ (.slice a3 y3.length b3)).setCell ⟨w.heap.size,k*7+4,none⟩ (.slice a4 y4.length b4)).setCell ⟨w.heap.size,k*7+5,none⟩ (.slice a5 y5.length b5)).setCell ⟨w.heap.size,k*7+6,none⟩ (.slice a6 y6.length b6))):=by
    refine⟨T,?_⟩;have ak:=hb.trans (aa.mono hb.size);exact(((((((ak.setCell (p:=⟨w.heap.size,k*7,none⟩) (Nat.le_refl _) _).setCell (p:=⟨w.heap.size,k*7+1,none⟩) (Nat.le_refl _) _).setCell (p:=⟨w.heap.size,k*7+2,none⟩) (Nat.le_refl _) _).setCell (p:=⟨w.heap.size,k*7+3,none⟩) (Nat.le_refl _) _).setCell (p:=⟨w.heap.size,k*7+4,none⟩) (Nat.le_refl _) _).setCell (p:=⟨w.heap.size,k*7+5,none⟩) (Nat.le_refl _) _).setCell (p:=⟨w.heap.size,k*7+6,none⟩) (Nat.le_refl _) _)
   have R1:Hid ((nodeK.fp (.slice (some ⟨w.heap.size,0,none⟩) ps.length ps.length) (qs.set k p')).Nodup):=z12 L k c p' (by rw[z];rfl) J N;have R2:Hid (∀x∈nodeK.fp (.slice (some ⟨w.heap.size,0,none⟩) ps.length ps.length) (qs.set k p'),w.heap.size≤x):=by
    intro x hx;simp only[Kind.fp,List.mem_append]at hx;rcases hx with hx|hx
    ·exact HG.out x (by simp only[Kind.fp,List.mem_append];exact Or.inl hx)
    ·rcases z1e c hx with hx|hx
     ·exact HG.out x (by simp only[Kind.fp,List.mem_append];exact Or.inr hx)
     ·have:=C x hx;omega
   have R3:Hid (∀j (hj:j<(qs.set k p').length),k+1≤j→(qs.set k p')[j]=(⟨0,0,.slice none 0 0,[],.slice none 0 0,[],.slice none 0 0,[],.slice none 0 0,[],.slice none 0 0,[]⟩:NodeQ)):=fun j hj aw=>by
    rw[List.getElem_set_ne (by omega)];exact HZ.out j (by simpa using hj) (by omega)
   have R4:Hid ((qs.set k p').length=ps.length):=by rw[List.length_set];exact HQ.out
   have R5:Hid (((qs.set k p').take (k+1)).map NodeQ.e=(ps.take (k+1)).map NodeQ.e):=Y.out p' X;clear T E D hQ d hO HN HG HZ HE HQ Y L N y J C V ab hb z ag ah X ad U hP
   go_wp2
   go_roundw
   case rel=>exact⟨k+1,qs.set k p',by omega,by go_num,R4.out,R5.out,R3.out,R.out.1,R1.out,R2.out,R.out.2⟩
   case measure=>simp[intOf];omega
  ·have al:k=ps.length:=by omega
   subst al;have hQ:=HQ.out;have hE:=HE.out;rw[List.take_length,List.take_of_length_le (by omega)]at hE;clear HE HZ
   go_wp2
   go_ret;exact⟨_,qs,rfl,hE,hO,HN.out,HG.out,hb⟩
structure CluQ where
 vo:Value
 ord:List InstQ
 vm:Value
 mem:List NodeQ
structure CluE where
 ord:List InstE
 mem:List NodeE
def CluQ.e(p:CluQ):CluE:=⟨p.ord.map InstQ.e,p.mem.map NodeQ.e⟩
def CluQ.n(p:CluQ):Nat:=(p.ord.length+nmL InstQ.n p.ord)+(p.mem.length+nmL NodeQ.n p.mem)
def CluQ.wf(p:CluQ):Prop:=(p.ord.length≤9223372036854775807∧∀q∈p.ord,InstQ.wf q)∧(p.mem.length≤9223372036854775807∧∀q∈p.mem,NodeQ.wf q)
def cluK:Kind CluQ where
 ty:=31
 size:=2
 cells p:=[p.vo,p.vm]
 own w p:=instK.Own w p.vo p.ord∧nodeK.Own w p.vm p.mem
 rd w p:=instK.At w p.vo p.ord∧nodeK.At w p.vm p.mem
 foot p:=instK.fp p.vo p.ord++nodeK.fp p.vm p.mem
 len _:=rfl
 own_rd h:=⟨h.1.at,h.2.at⟩
 own_out h ho hd:=⟨h.1.out ho (fun k hk=>hd k (List.mem_append_left _ hk)),h.2.out ho (fun k hk=>hd k (List.mem_append_right _ hk))⟩
 own_lt h k hk:=by
  rcases List.mem_append.1 hk with hk|hk
  ·exact h.1.lt k hk
  ·exact h.2.lt k hk
 rd_below h hb:=⟨h.1.below hb,h.2.below hb⟩
theorem z4w(p:CluQ)(c:Int)(w:World)(h:cluK.rd w p)(hn:CluQ.wf p)(h0:0≤c)(h1:c≤1048576):
  Calls Tryz.prog 4 #[.agg #[p.vo,p.vm],.int .i64 c] w fun e w'=>∃r:Int,e=.returned (.int .i64 r)∧(¬r<0→(CluQ.n p:Int)+r=c)∧Below w.heap.size w w':=by
 obtain⟨vo,x,vm,d⟩:=p;obtain⟨I,J⟩:instK.At w vo x∧nodeK.At w vm d:=h;obtain⟨y,z⟩:(x.length≤9223372036854775807∧∀p∈x,InstQ.wf p)∧(d.length≤9223372036854775807∧∀p∈d,NodeQ.wf p):=hn;obtain⟨a0,k0,rfl⟩:=I.shape;obtain⟨a1,k1,rfl⟩:=J.shape;have B:=Blk.new w 25 #[.slice a0 x.length k0,.slice a1 d.length k1];have hB:Below w.heap.size w (w.alloc (.cells #[.slice a0 x.length k0,.slice a1 d.length k1] 25)):=by go_grown
 dsimp only[CluQ.n];go_enter Tryz.func4,Tryz.ntmps4
 go_wp2_with fail
 generalize w.alloc (.cells #[.slice a0 x.length k0,.slice a1 d.length k1] 25)=W at*;refine(z5Y _ x c W (I.below hB) y.1 y.2 (by omega) (by omega)).mono ?_;rintro e w0 ⟨r0,rfl,L,A⟩;replace B:=B.below A;replace hB:=hB.trans (A.mono hB.size);clear A;by_cases D:r0<0
 ·go_wp2
  go_ret;exact⟨_,rfl,fun h=>by omega,hB⟩
 have N:=L D;clear L;have p1:=B.cell 1 _ rfl
 go_wp2_with fail
 clear p1;refine(q0A _ d r0 w0 (J.below hB) z.1 z.2 (by omega) (by omega)).mono ?_;rintro e w1 ⟨r1,rfl,M,C⟩;replace B:=B.below C;replace hB:=hB.trans (C.mono hB.size);clear C;by_cases E:r1<0
 ·go_wp2
  go_ret;exact⟨_,rfl,fun h=>by omega,hB⟩
 have O:=M E;clear M
 go_wp2
 go_ret;exact⟨_,rfl,fun _=>by omega,hB⟩
theorem z4x(p p':CluQ)(w:World)(h:cluK.rd w p)(h':cluK.rd w p')(he:p.e=p'.e)(hl:CluQ.n p≤1048576):
  Calls Tryz.prog 8 #[.agg #[p.vo,p.vm],.agg #[p'.vo,p'.vm]] w fun e w'=>e=.returned (.bool true)∧Below w.heap.size w w':=by
 obtain⟨vo,y,vm,x⟩:=p;obtain⟨U,d,T,c⟩:=p';simp only[CluQ.e,CluE.mk.injEq]at he;obtain⟨D,E⟩:=he;dsimp only[CluQ.n]at hl;obtain⟨L,M⟩:instK.At w vo y∧nodeK.At w vm x:=h;obtain⟨I,J⟩:instK.At w U d∧nodeK.At w T c:=h';have N:=fun w h1 h2=>z5Z vo U y d w h1 h2 D (by omega)
 have O:=fun w h1 h2=>q0B vm T x c w h1 h2 E (by omega)
 obtain⟨a0,k0,rfl⟩:=L.shape;obtain⟨b0,m0,rfl⟩:=I.shape;obtain⟨a1,k1,rfl⟩:=M.shape;obtain⟨b1,m1,rfl⟩:=J.shape;have B:=(Blk.new w 31 #[.slice a0 y.length k0,.slice a1 x.length k1]).below (w':=(w.alloc (.cells #[.slice a0 y.length k0,.slice a1 x.length k1] 31)).alloc (.cells #[.slice b0 d.length m0,.slice b1 c.length m1] 31)) (by go_grown);have C:=Blk.new (w.alloc (.cells #[.slice a0 y.length k0,.slice a1 x.length k1] 31)) 31 #[.slice b0 d.length m0,.slice b1 c.length m1];have hB:Below w.heap.size w ((w.alloc (.cells #[.slice a0 y.length k0,.slice a1 x.length k1] 31)).alloc (.cells #[.slice b0 d.length m0,.slice b1 c.length m1] 31)):=by go_grown
 rw[World.size_alloc]at C;clear D E;go_enter Tryz.func8,Tryz.ntmps8
 go_wp2_with fail
 generalize (w.alloc (.cells #[.slice a0 y.length k0,.slice a1 x.length k1] 31)).alloc (.cells #[.slice b0 d.length m0,.slice b1 c.length m1] 31)=W at*;refine(N W (L.below hB) (I.below hB)).mono ?_;rintro e w0 ⟨rfl,z⟩;replace B:=B.below z;replace C:=C.below z;replace hB:=hB.trans (z.mono hB.size);clear z N;have p1:=B.cell 1 _ rfl;have q1:=C.cell 1 _ rfl
 go_wp2_with fail
 clear p1 q1;refine(O w0 (M.below hB) (J.below hB)).mono ?_;rintro e w1 ⟨rfl,A⟩;replace B:=B.below A;replace C:=C.below A;replace hB:=hB.trans (A.mono hB.size);clear A O
 go_wp2
 go_ret;exact⟨rfl,hB⟩
theorem z4y(p:CluQ)(w:World)(h:cluK.rd w p)(hl:CluQ.n p≤1048576):
  Calls Tryz.prog 6 #[.agg #[p.vo,p.vm]] w fun e w'=>∃p':CluQ,e=.returned (.agg #[p'.vo,p'.vm])∧p'.e=p.e∧cluK.own w' p'∧(cluK.foot p').Nodup∧(∀k∈cluK.foot p',w.heap.size≤k)∧Below w.heap.size w w':=by
 obtain⟨vo,d,vm,c⟩:=p;dsimp only[CluQ.n]at hl;obtain⟨z,A⟩:instK.At w vo d∧nodeK.At w vm c:=h;have E:=fun w h1=>z50 vo d w h1 (by omega)
 have I:=fun w h1=>q0C vm c w h1 (by omega)
 obtain⟨a0,k0,rfl⟩:=z.shape;obtain⟨a1,k1,rfl⟩:=A.shape;have B:=(Blk.new w 25 #[.slice a0 d.length k0,.slice a1 c.length k1]).below (w':=((w.alloc (.cells #[.slice a0 d.length k0,.slice a1 c.length k1] 25)).alloc (.cells #[.slice none 0 0,.slice none 0 0] 31)).alloc (.cells #[.slice none 0 0,.slice none 0 0] 31)) (by go_grown);have C:=(Blk.new (w.alloc (.cells #[.slice a0 d.length k0,.slice a1 c.length k1] 25)) 31 #[.slice none 0 0,.slice none 0 0]).below (w':=((w.alloc (.cells #[.slice a0 d.length k0,.slice a1 c.length k1] 25)).alloc (.cells #[.slice none 0 0,.slice none 0 0] 31)).alloc (.cells #[.slice none 0 0,.slice none 0 0] 31)) (by go_grown);have D:=Blk.new ((w.alloc (.cells #[.slice a0 d.length k0,.slice a1 c.length k1] 25)).alloc (.cells #[.slice none 0 0,.slice none 0 0] 31)) 31 #[.slice none 0 0,.slice none 0 0];have hB:Below w.heap.size w (((w.alloc (.cells #[.slice a0 d.length k0,.slice a1 c.length k1] 25)).alloc (.cells #[.slice none 0 0,.slice none 0 0] 31)).alloc (.cells #[.slice none 0 0,.slice none 0 0] 31)):=by go_grown
 simp only[World.size_alloc]at C D;have hS:w.heap.size+3≤(((w.alloc (.cells #[.slice a0 d.length k0,.slice a1 c.length k1] 25)).alloc (.cells #[.slice none 0 0,.slice none 0 0] 31)).alloc (.cells #[.slice none 0 0,.slice none 0 0] 31)).heap.size:=by simp only[World.size_alloc];omega
 go_enter Tryz.func6,Tryz.ntmps6
 go_wp2_with fail
 generalize ((w.alloc (.cells #[.slice a0 d.length k0,.slice a1 c.length k1] 25)).alloc (.cells #[.slice none 0 0,.slice none 0 0] 31)).alloc (.cells #[.slice none 0 0,.slice none 0 0] 31)=W at*;refine(E W (z.below hB)).mono ?_;rintro e y0 ⟨v0,q0,rfl,E0,O0,N0,G0,hb⟩;replace B:=B.below hb;replace C:=C.below hb;replace D:=D.below hb;replace hB:=hB.trans (hb.mono hB.size);have s0:=hb.size;obtain⟨x0,z0,rfl⟩:=O0.shape;clear hb E;have p1:=B.cell 1 _ rfl;have d0:=D.cell 0 _ rfl;have f0:=D.frozen 0
 go_wp2_with fail
 clear p1 d0 f0;have U0:=(Out.refl [w.heap.size+1,w.heap.size+1+1] y0).set (b:=w.heap.size+1+1) (j:=0) (u:=.slice x0 q0.length z0) (by simp);replace D:=D.set 0 (.slice x0 q0.length z0);replace B:=B.other (b':=w.heap.size+1+1) (by omega) 0 (.slice x0 q0.length z0);replace C:=C.other (b':=w.heap.size+1+1) (by omega) 0 (.slice x0 q0.length z0);replace hB:=hB.setCell (p:=⟨w.heap.size+1+1,0,none⟩) (by show w.heap.size≤w.heap.size+1+1;omega) (.slice x0 q0.length z0);simp only[pjE]at D;have t0:=U0.size;generalize y0.setCell ⟨w.heap.size+1+1,0,none⟩ (.slice x0 q0.length z0)=V0 at*;refine(I V0 (A.below hB)).mono ?_;rintro e y1 ⟨v1,q1,rfl,E1,O1,N1,G1,hb⟩;replace U0:=U0.call hb;replace B:=B.below hb;replace C:=C.below hb;replace D:=D.below hb;replace hB:=hB.trans (hb.mono hB.size);have s1:=hb.size;obtain⟨x1,z1,rfl⟩:=O1.shape;clear hb I;clear B;have d0:=D.cell 0 _ rfl;have f0:=D.frozen 0;have c0:=C.cell 0 _ rfl;have g0:=C.frozen 0;have d1:=D.cell 1 _ rfl;have f1:=D.frozen 1;have c1:=C.cell 1 _ rfl;have g1:=C.frozen 1;have R:Hid (∀j u j' u' x y,cluK.own (((y1.setCell ⟨w.heap.size+1+1,j,none⟩ u).setCell ⟨w.heap.size+1,j',none⟩ u').setCell ⟨w.heap.size+1,x,none⟩ y) ⟨.slice x0 q0.length z0,q0,.slice x1 q1.length z1,q1⟩∧Below w.heap.size w (((y1.setCell ⟨w.heap.size+1+1,j,none⟩ u).setCell ⟨w.heap.size+1,j',none⟩ u').setCell ⟨w.heap.size+1,x,none⟩ y)):=by
  intro j u j' u' x y;have X0:=(((U0.set (b:=w.heap.size+1+1) (j:=j) (u:=u) (by simp)).set (b:=w.heap.size+1) (j:=j') (u:=u') (by simp)).set (b:=w.heap.size+1) (j:=x) (u:=y) (by simp))
  have X1:=((((Out.refl [w.heap.size+1,w.heap.size+1+1] y1).set (b:=w.heap.size+1+1) (j:=j) (u:=u) (by simp)).set (b:=w.heap.size+1) (j:=j') (u:=u') (by simp)).set (b:=w.heap.size+1) (j:=x) (u:=y) (by simp))
  refine⟨⟨O0.out X0 (fun k hk=>?_),O1.out X1 (fun k hk=>?_)⟩,?_⟩
  ·have:=G0 k hk;simp only[List.mem_cons,List.not_mem_nil,or_false];omega
  ·have:=G1 k hk;simp only[List.mem_cons,List.not_mem_nil,or_false];omega
  ·exact(((hB.setCell (p:=⟨w.heap.size+1+1,j,none⟩) (by show w.heap.size≤w.heap.size+1+1;omega) u).setCell (p:=⟨w.heap.size+1,j',none⟩) (by show w.heap.size≤w.heap.size+1;omega) u').setCell (p:=⟨w.heap.size+1,x,none⟩) (by show w.heap.size≤w.heap.size+1;omega) y)
 have R1:Hid ((cluK.foot ⟨.slice x0 q0.length z0,q0,.slice x1 q1.length z1,q1⟩).Nodup∧(∀k∈cluK.foot ⟨.slice x0 q0.length z0,q0,.slice x1 q1.length z1,q1⟩,w.heap.size≤k)):=by
  have L0:=O0.lt;have L1:=O1.lt;have T0:=U0.size;refine⟨?_,?_⟩
  ·show List.Nodup (_++_);exact List.nodup_append.2 ⟨N0,N1,z31 (m:=(V0).heap.size) (fun k hk=>by have:=L0 k hk;omega) (fun k hk=>by have:=G1 k hk;omega)⟩
  ·exact(fun k hk=>by rcases List.mem_append.1 hk with hk|hk<;>first|(have:=G0 k hk;omega)|(have:=G1 k hk;omega))
 have R2:Hid (CluQ.e ⟨.slice x0 q0.length z0,q0,.slice x1 q1.length z1,q1⟩=CluQ.e ⟨.slice a0 d.length k0,d,.slice a1 c.length k1,c⟩):=show _=_ by simp only[CluQ.e,E0,E1]
 clear O0 N0 G0 O1 N1 G1 U0 E0 E1 hB C D z A
 go_wp2
 exact bodyPost_ret (v:=.agg #[.slice x0 q0.length z0,.slice x1 q1.length z1]) (by simp[results,Tryz.results6,go_sem,c0,c1]) rfl ⟨⟨.slice x0 q0.length z0,q0,.slice x1 q1.length z1,q1⟩,rfl,R2.out,(R.out _ _ _ _ _ _).1,R1.out.1,R1.out.2,(R.out _ _ _ _ _ _).2⟩
section
variable {P:Type} {K:Kind P} {w w':World} {a:Option Addr} {n cap:Nat} {ps:List P}
theorem Kind.At.takeK(h:K.At w (.slice a n cap) ps)(m:Nat)(hm:m≤ps.length):K.At w (.slice a m cap) (ps.take m):=by
 obtain⟨a',c,e,hl,hr⟩:=h;simp only[Value.slice.injEq]at e;obtain⟨rfl,_,rfl⟩:=e;refine⟨a,cap,by rw[List.length_take,Nat.min_eq_left hm],?_,fun p hp=>hr p (List.mem_of_mem_take hp)⟩;have er:K.row ps=K.row (ps.take m)++K.row (ps.drop m):=by
  unfold Kind.row;rw[←List.flatMap_append,List.take_append_drop]
 rcases hl with h0|⟨b,off,ha,hlt,hc⟩
 ·left;rw[er]at h0;exact(List.append_eq_nil_iff.1 h0).1
 ·right;refine⟨b,off,ha,hlt,fun j x hx=>hc j x ?_⟩;rw[er,List.getElem?_append_left (List.getElem?_eq_some_iff.1 hx).1];exact hx
theorem Kind.At.nilA(w:World)(a:Option Addr)(c':Nat):K.At w (.slice a 0 c') ([]:List P):=⟨a,c',rfl,Or.inl rfl,fun p hp=>by simp at hp⟩
theorem Kind.At.dropS(h:K.At w (.slice a n cap) ps)(m:Nat)(hm:m≤ps.length)(hcap:ps.length≤cap)(c':Nat):K.At w (.slice (if cap=m then a else a.map (·.add (m*K.size))) (ps.drop m).length c') (ps.drop m):=by
 by_cases hc:cap=m
 ·have hp:ps.drop m=[]:=List.drop_of_length_le (by omega);rw[if_pos hc,hp];exact Kind.At.nilA w a c'
 ·rw[if_neg hc]
  cases a with
  |none=>
   obtain⟨a',c,e,hl,hr⟩:=h;simp only[Value.slice.injEq]at e;obtain⟨rfl,_,rfl⟩:=e;rcases hl with h0|⟨b',off',ha,_⟩
   ·refine⟨none,c',rfl,Or.inl ?_,fun p hp=>hr p (List.mem_of_mem_drop hp)⟩;have er:K.row ps=K.row (ps.take m)++K.row (ps.drop m):=by
     unfold Kind.row;rw[←List.flatMap_append,List.take_append_drop]
    rw[er]at h0;exact(List.append_eq_nil_iff.1 h0).2
   ·simp at ha
  |some x=>
   obtain⟨a',c,e,hl,hr⟩:=h;simp only[Value.slice.injEq]at e;obtain⟨rfl,_,rfl⟩:=e;refine⟨_,c',rfl,?_,fun p hp=>hr p (List.mem_of_mem_drop hp)⟩;have er:K.row ps=K.row (ps.take m)++K.row (ps.drop m):=by
    unfold Kind.row;rw[←List.flatMap_append,List.take_append_drop]
   have hlen:(K.row (ps.take m)).length=m*K.size:=by rw[Kind.row_length,List.length_take,Nat.min_eq_left hm]
   rcases hl with h0|⟨b',off',ha,hlt,hc⟩
   ·left;rw[er]at h0;exact(List.append_eq_nil_iff.1 h0).2
   ·right;simp only[Option.some.injEq]at ha;subst ha;refine⟨b',off'+m*K.size,by simp[Addr.add],hlt,fun j y hy=>?_⟩;have h2:=hc (m*K.size+j) y (by rw[er,List.getElem?_append_right (by omega),hlen,show m*K.size+j-m*K.size=j by omega];exact hy);rw[←Nat.add_assoc]at h2;exact h2
theorem Kind.at_of_row{v:Value}{base e:Nat}(h:w.ownsRow base e K.size v ps.length (K.row ps))(hr:∀p∈ps,K.rd w p):K.At w v ps:=by
 obtain⟨a,c,rfl⟩:=z0g h;exact⟨a,c,rfl,Lies.own h,hr⟩
end
theorem Blk.outs8{w w':World}{b:Nat}{t:TypeId}{cs:Array Value}{F:List Nat}(h:Blk w b t cs)(hU:Out F w w')(hF:b∉F):Blk w' b t cs:=(hU.block b h.lt hF).trans h
def z51:Value→Prop
 | .slice _ n c=>n≤c∧c≤maxLen
 |_=>False
end Go.Proofs.YtljbililjlafcaaGreatDoor

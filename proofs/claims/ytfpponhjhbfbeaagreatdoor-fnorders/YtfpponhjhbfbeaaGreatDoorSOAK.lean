/- Texts joined,with what the laws reach alone. -/
import Derived.Test.YtfpponhjhbfbeaaGreatDoorSOAJ
import Derived.Maps.AppendAt
set_option linter.unusedVariables false
set_option linter.unusedSimpArgs false
set_option maxRecDepth 100000
set_option maxHeartbeats 4000000
namespace Go.Proofs.YtfpponhjhbfbeaaGreatDoor
open Go.RowKit Go.BigFrame
def bdOf(p:InstQ):List Value:=if insF p.e=0 then brdC p.has p.vb p.e.rounds p.dec else brd0
theorem z1d{x:InstE}(h:insF x=0):shpF x=0∧z8s x=true:=by
 unfold insF at h;by_cases h0:shpF x=0
 ·rw[if_pos h0]at h;refine⟨h0,?_⟩;by_cases h1:z8s x=true
  ·exact h1
  ·rw[if_neg h1]at h;simp at h
 ·rw[if_neg h0]at h;exact absurd h h0
theorem z2w{x:InstE}(h:insF x=0):Wel x.rounds∧(1≤x.rounds.length∧x.rounds.length≤4)∧x.dec.length=3∧z0G x.rounds=0∧vf x.dec 1=0:=by
 obtain⟨h0,_⟩:=z1d h;obtain⟨h1,h2,h3,_⟩:=z0V h0;exact⟨z8Z h2,h1,z0y h3,h2,h3⟩
theorem z9t {has:Bool} {vb:Value} {rs:List RoundE} {dec:List Int} (hv:vb.oneCell' = true):(brdC has vb rs dec).toArray.all (·.oneCell')=true:=all_oneCell_toArray (fun v hm=>by
 simp only[brdC,rndC,z2J,List.mem_append,List.mem_cons,List.mem_flatMap,List.mem_replicate,List.mem_map,z0T,List.not_mem_nil,or_false]at hm;rcases hm with (rfl | ⟨r,_,z,_,rfl⟩ | ⟨_,rfl⟩) | (rfl | rfl) | ⟨z,_,rfl⟩ <;> first | rfl | exact hv)
theorem q0d{w:World}{p:InstQ}(h:instK.rd w p):(bdOf p).length=30∧(bdOf p).toArray.all (·.oneCell')=true:=by
 unfold bdOf;by_cases h0:insF p.e=0
 ·rw[if_pos h0];obtain⟨h1,h2,h3,_⟩:=z2w h0;refine⟨z2i h1 h2.2 h3,z9t ?_⟩;obtain⟨a,c,e⟩:=h.1.shape;rw[e];rfl
 ·rw[if_neg h0];exact⟨rfl,by kernel_rfl⟩
theorem z1Z(p:InstQ)(w:World)(hG:Rul w)(h:instK.rd w p)(hl:p.n≤1048576):
  Calls Tryz.prog 27 #[.agg #[.bool p.has,p.vb,p.vr,p.vd]] w fun e w'=>e=.returned (.int .i64 (insF p.e))∧Below w.heap.size w w':=by
 obtain⟨hl30,hone⟩:=q0d h;have hbo:=fun w hG h=>z3N p w hG h hl
 have hrb:=fun(w':World) hb=>instK.rd_below (w':=w') h hb
 change∀w hG h,Calls _ _ _ _ fun e w'=>e=.returned (.tuple #[.agg (bdOf p).toArray,_])∧_ at hbo
 generalize bdOf p=BD at*;generalize insF p.e=C at*;obtain⟨has,vb,batch,vr,rounds,vd,dec⟩:=p;obtain⟨ba,bk,rfl⟩:∃a c,vb=.slice a batch.length c:=h.1.shape;obtain⟨va,vk,rfl⟩:∃a c,vr=.slice a rounds.length c:=h.2.1.shape;obtain⟨da,dk,rfl⟩:∃a c,vd=.slice a dec.length c:=h.2.2.shape;dsimp only at hbo hrb;have hB:Below w.heap.size w (w.alloc (.cells #[.bool has,.slice ba batch.length bk,.slice va rounds.length vk,.slice da dec.length dk] 49)):=by go_grown
 have hszB:(Tryz.prog.info? 93).map (·.size)=some BD.toArray.size:=by rw[List.size_toArray,hl30];exact z2v
 have hold:(#[.int .i64 0,.int .i64 0,.int .i64 0,.int .i64 0,.int .i64 0,.int .i64 0,.int .i64 0,.int .i64 0,.int .i64 0,.int .i64 0,.int .i64 0,.int .i64 0,.int .i64 0,.int .i64 0,.int .i64 0,.int .i64 0,.int .i64 0,.int .i64 0,.int .i64 0,.int .i64 0,.int .i64 0,.int .i64 0,.int .i64 0,.int .i64 0,.int .i64 0,.bool false,.slice none 0 0,.int .i64 0,.int .i64 0,.int .i64 0]:Array Value).size=BD.toArray.size:=(show 30=BD.length from hl30.symm)
 go_enter Tryz.func27,Tryz.ntmps27
 go_wp2_with fail
 generalize w.alloc (.cells #[.bool has,.slice ba batch.length bk,.slice va rounds.length vk,.slice da dec.length dk] 49)=W at*;refine(hbo W (hG.below hB) (hrb W hB)).mono ?_;rintro e w1 ⟨rfl,hb1⟩;replace hB:=hB.trans (hb1.mono hB.size);have Bz:=Blk.new w1 93 #[.int .i64 0,.int .i64 0,.int .i64 0,.int .i64 0,.int .i64 0,.int .i64 0,.int .i64 0,.int .i64 0,.int .i64 0,.int .i64 0,.int .i64 0,.int .i64 0,.int .i64 0,.int .i64 0,.int .i64 0,.int .i64 0,.int .i64 0,.int .i64 0,.int .i64 0,.int .i64 0,.int .i64 0,.int .i64 0,.int .i64 0,.int .i64 0,.int .i64 0,.bool false,.slice none 0 0,.int .i64 0,.int .i64 0,.int .i64 0];have hB2:=z0a (hB.alloc hB.size (.cells #[.int .i64 0,.int .i64 0,.int .i64 0,.int .i64 0,.int .i64 0,.int .i64 0,.int .i64 0,.int .i64 0,.int .i64 0,.int .i64 0,.int .i64 0,.int .i64 0,.int .i64 0,.int .i64 0,.int .i64 0,.int .i64 0,.int .i64 0,.int .i64 0,.int .i64 0,.int .i64 0,.int .i64 0,.int .i64 0,.int .i64 0,.int .i64 0,.int .i64 0,.bool false,.slice none 0 0,.int .i64 0,.int .i64 0,.int .i64 0] 93)) (g:=w1.heap.size) hB.size BD.toArray;clear hbo hrb hb1
 go_wp2_with (refine z0b (by kernel_rfl) 93 _ _ rfl _ BD.toArray rfl rfl 93 _ Bz hszB hold hone ?_)
 go_ret;exact⟨rfl,hB2⟩
def outV:List Int→Int
 |[]=>3
 |x::r=>if x=3 then outV r else x
theorem z7I(L:List Int):∀k,(∀j,j<k→L.getD j 0=3)→k<L.length→L.getD k 0≠3→outV L=L.getD k 0:=by
 induction L with
 |nil=>intro k _ h;simp at h
 |cons x r ih=>
  intro k h0 hk hne
  cases k with
  |zero=>simp[List.getD]at hne⊢;simp[outV,hne]
  |succ k=>
   have hx:x=3:=by simpa[List.getD]using h0 0 (by omega)
   have:=ih k (fun j hj=>by simpa[List.getD]using h0 (j+1) (by omega)) (by simpa using hk) (by simpa[List.getD]using hne);simp only[outV,hx,if_true];rw[this];simp[List.getD]
theorem z5q(L:List Int)(h:∀j,j<L.length→L.getD j 0=3):outV L=3:=by
 induction L with
 |nil=>rfl
 |cons x r ih=>
  have hx:x=3:=by simpa[List.getD]using h 0 (by simp)
  simp only[outV,hx,if_true];exact ih (fun j hj=>by simpa[List.getD]using h (j+1) (by simpa using hj))
def ocC(x:InstE):Int:=if insF x=0 then(if outV x.dec=3 then 4 else 0)else insF x
def ocV(x:InstE):Int:=if insF x=0 then(if outV x.dec=3 then 0 else outV x.dec)else 0
theorem z10(p:InstQ)(w:World)(hG:Rul w)(h:instK.rd w p)(hl:p.n≤1048576):
  Calls Tryz.prog 74 #[.agg #[.bool p.has,p.vb,p.vr,p.vd]] w fun e w'=>e=.returned (.agg #[.int .i64 (ocC p.e),.int .i64 (ocV p.e)])∧Below w.heap.size w w':=by
 obtain⟨hl30,hone⟩:=q0d h;have hbo:=fun w hG h=>z3N p w hG h hl
 have hrb:=fun(w':World) hb=>instK.rd_below (w':=w') h hb
 change∀w hG h,Calls _ _ _ _ fun e w'=>e=.returned (.tuple #[.agg (bdOf p).toArray,_])∧_ at hbo
 have HBD:Hid (insF p.e=0→bdOf p=brdC p.has p.vb p.e.rounds p.dec∧Wel p.e.rounds∧p.e.rounds.length≤4∧p.dec.length=3):=fun h0=>by
  obtain⟨h1,h2,h3,_⟩:=z2w h0;exact⟨if_pos h0,h1,h2.2,h3⟩
 obtain⟨D,hD⟩:∃D,ocC p.e=D:=⟨_,rfl⟩
 obtain⟨E,hE⟩:∃E,ocV p.e=E:=⟨_,rfl⟩
 have HDE:Hid ((insF p.e=0→(D=if outV p.dec=3 then 4 else 0)∧(E=if outV p.dec=3 then 0 else outV p.dec))∧(insF p.e≠0→D=insF p.e∧E=0)):=by
  refine⟨fun h0=>⟨?_,?_⟩,fun h0=>⟨?_,?_⟩⟩
  ·rw[←hD];exact if_pos h0
  ·rw[←hE];exact if_pos h0
  ·rw[←hD];exact if_neg h0
  ·rw[←hE];exact if_neg h0
 rw[hD,hE];clear hD hE;generalize bdOf p=BD at*;generalize insF p.e=C at*;generalize p.e.rounds=rs at*;obtain⟨has,vb,batch,vr,rounds,vd,dec⟩:=p;obtain⟨ba,bk,rfl⟩:∃a c,vb=.slice a batch.length c:=h.1.shape;obtain⟨va,vk,rfl⟩:∃a c,vr=.slice a rounds.length c:=h.2.1.shape;obtain⟨da,dk,rfl⟩:∃a c,vd=.slice a dec.length c:=h.2.2.shape;dsimp only at hbo hrb HBD HDE;have hB:Below w.heap.size w ((w.alloc (.cells #[.bool has,.slice ba batch.length bk,.slice va rounds.length vk,.slice da dec.length dk] 49)).alloc (.cells #[.int .i64 0,.int .i64 0] 38)):=by go_grown
 have Rb:=Blk.new (w.alloc (.cells #[.bool has,.slice ba batch.length bk,.slice va rounds.length vk,.slice da dec.length dk] 49)) 38 #[.int .i64 0,.int .i64 0];simp only[World.size_alloc]at Rb;have hszB:(Tryz.prog.info? 93).map (·.size)=some BD.toArray.size:=by rw[List.size_toArray,hl30];exact z2v
 have hold:(#[.int .i64 0,.int .i64 0,.int .i64 0,.int .i64 0,.int .i64 0,.int .i64 0,.int .i64 0,.int .i64 0,.int .i64 0,.int .i64 0,.int .i64 0,.int .i64 0,.int .i64 0,.int .i64 0,.int .i64 0,.int .i64 0,.int .i64 0,.int .i64 0,.int .i64 0,.int .i64 0,.int .i64 0,.int .i64 0,.int .i64 0,.int .i64 0,.int .i64 0,.bool false,.slice none 0 0,.int .i64 0,.int .i64 0,.int .i64 0]:Array Value).size=BD.toArray.size:=(show 30=BD.length from hl30.symm)
 go_enter Tryz.func74,Tryz.ntmps74
 go_wp2_with fail
 generalize (w.alloc (.cells #[.bool has,.slice ba batch.length bk,.slice va rounds.length vk,.slice da dec.length dk] 49)).alloc (.cells #[.int .i64 0,.int .i64 0] 38)=W at*;refine(hbo W (hG.below hB) (hrb W hB)).mono ?_;rintro e w1 ⟨rfl,hb1⟩;replace hB:=hB.trans (hb1.mono hB.size);replace Rb:=Rb.below hb1;have Bz:=Blk.new w1 93 #[.int .i64 0,.int .i64 0,.int .i64 0,.int .i64 0,.int .i64 0,.int .i64 0,.int .i64 0,.int .i64 0,.int .i64 0,.int .i64 0,.int .i64 0,.int .i64 0,.int .i64 0,.int .i64 0,.int .i64 0,.int .i64 0,.int .i64 0,.int .i64 0,.int .i64 0,.int .i64 0,.int .i64 0,.int .i64 0,.int .i64 0,.int .i64 0,.int .i64 0,.bool false,.slice none 0 0,.int .i64 0,.int .i64 0,.int .i64 0];have hB2:=z0a (hB.alloc hB.size (.cells #[.int .i64 0,.int .i64 0,.int .i64 0,.int .i64 0,.int .i64 0,.int .i64 0,.int .i64 0,.int .i64 0,.int .i64 0,.int .i64 0,.int .i64 0,.int .i64 0,.int .i64 0,.int .i64 0,.int .i64 0,.int .i64 0,.int .i64 0,.int .i64 0,.int .i64 0,.int .i64 0,.int .i64 0,.int .i64 0,.int .i64 0,.int .i64 0,.int .i64 0,.bool false,.slice none 0 0,.int .i64 0,.int .i64 0,.int .i64 0] 93)) (g:=w1.heap.size) hB.size BD.toArray;have Rb2:Blk ((w1.alloc (.cells #[.int .i64 0,.int .i64 0,.int .i64 0,.int .i64 0,.int .i64 0,.int .i64 0,.int .i64 0,.int .i64 0,.int .i64 0,.int .i64 0,.int .i64 0,.int .i64 0,.int .i64 0,.int .i64 0,.int .i64 0,.int .i64 0,.int .i64 0,.int .i64 0,.int .i64 0,.int .i64 0,.int .i64 0,.int .i64 0,.int .i64 0,.int .i64 0,.int .i64 0,.bool false,.slice none 0 0,.int .i64 0,.int .i64 0,.int .i64 0] 93)).setRow w1.heap.size BD.toArray) (w.heap.size+1) 38 #[.int .i64 0,.int .i64 0]:=(setRow_other _ _ _ _ (by have:=Rb.lt;omega)).trans (Rb.below ((Below.refl _ _).alloc (Nat.le_refl _) _));have B2:=Bz.row BD.toArray;clear hbo hrb hb1 Rb;by_cases h0:C=0
 ·obtain⟨hBD,hwel,h4,hd3⟩:=HBD.out h0;have HD:Hid (D=if outV dec=3 then 4 else 0):=(HDE.out.1 h0).1;have HV:Hid (E=if outV dec=3 then 0 else outV dec):=(HDE.out.1 h0).2;subst h0;have hrg:=rng B2 (dec.map iv) (o:=27) (fun j v hv=>by
   obtain⟨hj,rfl⟩:=row_get hd3 hv;rw[List.getElem?_toArray,hBD];exact z5T hwel h4 hd3 j hj)
  have hszD:(Tryz.prog.info? 86).map (·.size)=some (dec.map iv).length:=by rw[List.length_map,hd3];exact z1v
  clear HBD HDE hBD
  go_wp2_with (first|(refine z0b (by kernel_rfl) 93 _ _ rfl _ BD.toArray rfl rfl 93 _ Bz hszB hold hone ?_)|(refine z4F (by kernel_rfl) 86 _ rfl _ _ rfl (dec.map iv) _ hrg Tryz.underlying86 rfl hszD ?_))
  clear hrg Bz;generalize (w1.alloc (.cells #[.int .i64 0,.int .i64 0,.int .i64 0,.int .i64 0,.int .i64 0,.int .i64 0,.int .i64 0,.int .i64 0,.int .i64 0,.int .i64 0,.int .i64 0,.int .i64 0,.int .i64 0,.int .i64 0,.int .i64 0,.int .i64 0,.int .i64 0,.int .i64 0,.int .i64 0,.int .i64 0,.int .i64 0,.int .i64 0,.int .i64 0,.int .i64 0,.int .i64 0,.bool false,.slice none 0 0,.int .i64 0,.int .i64 0,.int .i64 0] 93)).setRow w1.heap.size BD.toArray=X at*;go_loopw[18] (fun j wr=>∃m:Nat,m≤3∧j=.int .i64 m∧Hid (∀j,j<m→dec.getD j 0=3)∧wr=X) (fun j _=>3-(intOf j).toNat)
  case atStart=>exact⟨0,Nat.zero_le _,rfl,fun j hj=>absurd hj (Nat.not_lt_zero _),rfl⟩
  case round=>
   obtain⟨m,hm,rfl,HA,rfl⟩:=hrel;have q0:=Rb2.cell 0 _ rfl;have q1:=Rb2.cell 1 _ rfl;have f0:=Rb2.frozen 0;have f1:=Rb2.frozen 1;by_cases hm3:m<3
   ·have hm3':(m:Int)<3:=by omega
    have hix:=fun w=>z7F hd3 m hm3 w
    have HY:Hid (dec.getD m 0≠3→outV dec=dec.getD m 0):=fun hx=>z7I dec m HA.out (by omega) hx
    have HN:Hid (dec.getD m 0=3→∀j,j<m+1→dec.getD j 0=3):=fun hx j hj=>by
     by_cases hjm:j=m
     ·subst hjm;exact hx
     ·exact HA.out j (by omega)
    clear HA;generalize dec.getD m 0=v at*;by_cases hv:v=3
    ·have hv':(v !=3)=false:=by simp[hv]
     have R:=HN.out hv;have HR:Hid _:=R;clear HY HN R hv
     go_wp2
     go_roundw
     case rel=>exact⟨m+1,by omega,by go_num,HR.out,by first|rfl|trivial⟩
     case measure=>simp[intOf];omega
    ·have hv':(v !=3)=true:=by simpa using hv
     have hov:=HY.out hv;have E1:Hid (D=0∧E=v):=by
      refine⟨?_,?_⟩
      ·rw[HD.out,hov,if_neg hv]
      ·rw[HV.out,hov,if_neg hv]
     clear HY HN HD HV hov hv
     go_wp2
     exact bodyPost_ret (v:=.agg #[.int .i64 0,.int .i64 v]) (by simp[results,Tryz.results74,go_sem,q0,q1]) rfl ⟨by rw[E1.out.1,E1.out.2],(hB2.setCell (p:=⟨w.heap.size+1,0,none⟩) (by show w.heap.size≤w.heap.size+1;omega) _).setCell (p:=⟨w.heap.size+1,1,none⟩) (by show w.heap.size≤w.heap.size+1;omega) _⟩
   ·have hme:m=3:=by omega
    subst hme;have hov:=z5q dec (by rw[hd3];exact HA.out);have E1:Hid (D=4∧E=0):=by
     refine⟨?_,?_⟩
     ·rw[HD.out,hov,if_pos rfl]
     ·rw[HV.out,hov,if_pos rfl]
    clear HA HD HV hov
    go_wp2
    exact bodyPost_ret (v:=.agg #[.int .i64 4,.int .i64 0]) (by simp[results,Tryz.results74,go_sem,q0,q1]) rfl ⟨by rw[E1.out.1,E1.out.2],(hB2.setCell (p:=⟨w.heap.size+1,0,none⟩) (by show w.heap.size≤w.heap.size+1;omega) _).setCell (p:=⟨w.heap.size+1,1,none⟩) (by show w.heap.size≤w.heap.size+1;omega) _⟩
 ·have E1:Hid (D=C∧E=0):=HDE.out.2 h0;have h0':(C !=0)=true:=by simpa using h0
  have q0:=Rb2.cell 0 _ rfl;have q1:=Rb2.cell 1 _ rfl;have f0:=Rb2.frozen 0;have f1:=Rb2.frozen 1;clear HDE HBD h0 B2 Rb2;generalize hX:(w1.alloc (.cells #[.int .i64 0,.int .i64 0,.int .i64 0,.int .i64 0,.int .i64 0,.int .i64 0,.int .i64 0,.int .i64 0,.int .i64 0,.int .i64 0,.int .i64 0,.int .i64 0,.int .i64 0,.int .i64 0,.int .i64 0,.int .i64 0,.int .i64 0,.int .i64 0,.int .i64 0,.int .i64 0,.int .i64 0,.int .i64 0,.int .i64 0,.int .i64 0,.int .i64 0,.bool false,.slice none 0 0,.int .i64 0,.int .i64 0,.int .i64 0] 93)).setRow w1.heap.size BD.toArray=X at q0 q1 f0 f1 hB2
  go_wp2_with (refine z0b (by kernel_rfl) 93 _ _ rfl _ BD.toArray rfl rfl 93 _ Bz hszB hold hone ?_)
  exact bodyPost_ret (v:=.agg #[.int .i64 C,.int .i64 0]) (by simp[results,Tryz.results74,go_sem,q0,q1]) rfl ⟨by rw[E1.out.1,E1.out.2],(hB2.setCell (p:=⟨w.heap.size+1,0,none⟩) (by show w.heap.size≤w.heap.size+1;omega) _).setCell (p:=⟨w.heap.size+1,1,none⟩) (by show w.heap.size≤w.heap.size+1;omega) _⟩
theorem z0L(b o:Nat)(p:InstQ)(w:World)(hP:InstP w b o p)(hl:p.n≤1048576):
  Calls Tryz.prog 78 #[.pointer (some ⟨b,o,none⟩)] w fun e w'=>e=.returned (.int .i64 (outV p.dec))∧w'=w:=by
 obtain⟨has,vb,batch,vr,rounds,vd,dec⟩:=p;have hD:intK.At w vd dec:=hP.dec;obtain⟨da,dk,rfl⟩:=hD.shape;have hRow:=(z0N hD).2;obtain⟨c0,c1,c2,c3⟩:=hP.box;dsimp only[InstQ.n]at c0 c1 c2 c3 hl⊢;generalize hE:outV dec=E;have HE:Hid (outV dec=E):=hE;clear hE;go_enter Tryz.func78,Tryz.ntmps78
 go_wp2
 go_loop[3] (fun j=>∃k:Nat,k≤dec.length∧j=.int .i64 k∧Hid (∀j,j<k→dec.getD j 0=3)) (fun j=>dec.length-(intOf j).toNat)
 case atStart=>exact⟨0,Nat.zero_le _,rfl,fun j hj=>absurd hj (Nat.not_lt_zero _)⟩
 case round=>
  obtain⟨k,hk,rfl,HA⟩:=hrel;by_cases hlt:k<dec.length
  ·obtain⟨bb,off,rfl,hbs,hc⟩:=hRow k hlt;have HY:Hid (dec.getD k 0≠3→E=dec.getD k 0):=fun hx=>by rw[←HE.out];exact z7I dec k HA.out hlt hx
   have HN:Hid (dec.getD k 0=3→∀j,j<k+1→dec.getD j 0=3):=fun hx j hj=>by
    by_cases hjm:j=k
    ·subst hjm;exact hx
    ·exact HA.out j (by omega)
   clear HA;generalize dec.getD k 0=v at*;by_cases hv:v=3
   ·have hv':(v !=3)=false:=by simp[hv]
    have R:=HN.out hv;have HR:Hid _:=R;clear HY HN R hv
    go_wp2
    go_round
    case rel=>exact⟨k+1,by omega,by go_num,HR.out⟩
    case measure=>simp[intOf];omega
   ·have hv':(v !=3)=true:=by simpa using hv
    have E1:Hid (E=v):=HY.out hv;clear HY HN hv
    go_wp2
    go_ret;exact⟨by rw[E1.out];rfl,rfl⟩
  ·have hkl:k=dec.length:=by omega
   subst hkl;have E1:Hid (E=3):=by rw[←HE.out];exact z5q dec HA.out
   clear HA HE
   go_wp2
   go_ret;exact⟨by rw[E1.out];rfl,rfl⟩
section
variable {P:Type} {K:Kind P} {w w':World} {v v':Value} {ps:List P} {p:P} {B:Nat}
theorem Kind.row_snoc(ps:List P)(p:P):K.row (ps++[p])=K.row ps++K.cells p:=by simp[Kind.row]
theorem Kind.Own.snoc(h:K.Own w v ps)(hnd:(K.fp v ps).Nodup)(hlo:∀k∈K.fp v ps,B≤k)(hp:K.own w p)(hpn:(K.foot p).Nodup)(hpd:∀k∈K.foot p,k∉K.fp v ps)(hplo:∀k∈K.foot p,B≤k)(hB:B≤w.heap.size)
  (hrow:w'.ownsRow 0 K.ty K.size v' (ps.length+1) (K.row ps++K.cells p)) (hg:w.grownBy w' v.ownBlock) (hat:v'.ownBlock=v.ownBlock∨v'.ownBlock=some w.heap.size):
  K.Own w' v' (ps++[p])∧(K.fp v' (ps++[p])).Nodup∧(∀k∈K.fp v' (ps++[p]),B≤k)∧Out (blk v) w w':=by
 have hO:Out (blk v) w w':=Out.of_grown hg;have hnd2:=List.nodup_append.1 hnd;have hlt:=h.lt;have hplt:=K.own_lt hp;have hfe:(ps++[p]).flatMap K.foot=ps.flatMap K.foot++K.foot p:=by simp
 refine⟨⟨?_,?_⟩,?_,?_,hO⟩
 ·rw[List.length_append,List.length_singleton,Kind.row_snoc];exact hrow
 ·intro q hq;rcases List.mem_append.1 hq with hq|hq
  ·exact K.own_out (h.2 q hq) hO (fun k hk hkb=>hnd2.2.2 k hkb k (List.mem_flatMap.2 ⟨q,hq,hk⟩) rfl)
  ·simp only[List.mem_singleton]at hq;subst hq;exact K.own_out hp hO (fun k hk hkb=>hpd k hk (by simp only[Kind.fp,List.mem_append];exact Or.inl hkb))
 ·unfold Kind.fp;rw[hfe];have hrest:(ps.flatMap K.foot++K.foot p).Nodup:=List.nodup_append.2 ⟨hnd2.2.1,hpn,fun a ha b hb e=>hpd b hb (by simp only[Kind.fp,List.mem_append];exact Or.inr (e▸ha))⟩;rcases hat with hat|hat
  ·have e:blk v'=blk v:=by unfold blk;rw[hat]
   rw[e];refine List.nodup_append.2 ⟨hnd2.1,hrest,fun a ha b hb e=>?_⟩;subst e;rcases List.mem_append.1 hb with hb|hb
   ·exact hnd2.2.2 a ha a hb rfl
   ·exact hpd a hb (by simp only[Kind.fp,List.mem_append];exact Or.inl ha)
  ·have e:blk v'=[w.heap.size]:=by unfold blk;rw[hat];rfl
   rw[e];refine List.nodup_append.2 ⟨by simp,hrest,fun a ha b hb e=>?_⟩;simp only[List.mem_singleton]at ha;subst e ha;rcases List.mem_append.1 hb with hb|hb
   ·have:=hlt _ (show w.heap.size∈K.fp v ps by simp only[Kind.fp,List.mem_append];exact Or.inr hb);omega
   ·have:=hplt _ hb;omega
 ·intro k hk;unfold Kind.fp at hk;rw[hfe]at hk;rcases List.mem_append.1 hk with hk|hk
  ·rcases hat with hat|hat
   ·exact hlo k (by simp only[Kind.fp,List.mem_append];left;unfold blk at hk⊢;rw[hat]at hk;exact hk)
   ·unfold blk at hk;rw[hat]at hk;simp only[Option.toList,List.mem_singleton]at hk;omega
  ·rcases List.mem_append.1 hk with hk|hk
   ·exact hlo k (by simp only[Kind.fp,List.mem_append];exact Or.inr hk)
   ·exact hplo k hk
theorem Kind.own_nil(w:World):K.Own w (.slice none 0 0) ([]:List P)∧(K.fp (.slice none 0 0) ([]:List P))=[]:=⟨⟨World.ownsRow_nil _ _ _ _,fun p hp=>by simp at hp⟩,by simp[Kind.fp,blk,Value.ownBlock]⟩
end
theorem z1H(v:Value)(ps:List TxnQ)(w:World)(h:txnK.At w v ps)(hne:∀p∈ps,0<p.acts.length)(hl:ps.length+nmL TxnQ.n ps≤1048576):
  Calls Tryz.prog 36 #[v] w fun e w'=>∃v' qs,e=.returned v'∧qs.map TxnQ.e=ps.map TxnQ.e∧txnK.Own w' v' qs∧(txnK.fp v' qs).Nodup∧(∀k∈txnK.fp v' qs,w.heap.size≤k)∧Below w.heap.size w w':=by
 obtain⟨a,cap,rfl⟩:=h.shape;obtain⟨i0,hi,hz0,hz1,hz2⟩:=info_parts z1q;obtain⟨hn1,hn2⟩:=Kind.own_nil (K:=txnK) w;have HN0:Hid ((txnK.fp (.slice none 0 0) ([]:List TxnQ)).Nodup∧∀k∈txnK.fp (.slice none 0 0) ([]:List TxnQ),w.heap.size≤k):=by
  rw[hn2];exact⟨by simp,by simp⟩
 clear hn2;go_enter Tryz.func36,Tryz.ntmps36
 go_wp2
 go_loopw[3,8] (fun v j wr=>∃ (k:Nat) (qs:List TxnQ),k≤ps.length∧j=.int .i64 k∧Hid (qs.map TxnQ.e=(ps.take k).map TxnQ.e)∧txnK.Own wr v qs∧Hid ((txnK.fp v qs).Nodup∧∀k∈txnK.fp v qs,w.heap.size≤k)∧Below w.heap.size w wr) (fun _ j _=>ps.length-(intOf j).toNat)
 case atStart=>exact⟨0,[],Nat.zero_le _,rfl,(rfl:_=_),hn1,HN0,Below.refl _ _⟩
 case round=>
  clear HN0 hn1;obtain⟨k,qs,hk,rfl,HE,hO,HN,hb⟩:=hrel;obtain⟨sa,sc,rfl⟩:=hO.shape;have HQL:Hid (qs.length=k):=by
   have:=congrArg List.length HE.out;rw[List.length_map,List.length_map,List.length_take]at this;show qs.length=k;omega
  by_cases hlt:k<ps.length
  ·obtain⟨b,off,rfl,hbs,hc,hrd⟩:=(h.below hb).cell (by decide) k hlt;have hc':∀j x,(txnK.cells ps[k])[j]?=some x→wr.cell? ⟨b,off+k*4+j,none⟩=some x:=hc;have c0:=hc' 0 (.int .i64 ps[k].i) rfl;have c1:=hc' 1 (.int .i64 ps[k].s) rfl;have c2:=hc' 2 (.int .i64 ps[k].q) rfl;have c3:=hc' 3 (ps[k].va) rfl;have hzl:=z4b TxnQ.n ps k hlt;have hpos:=hne _ (List.getElem_mem hlt);have HPE:Hid (∀p':TxnQ,p'.e=TxnQ.e ps[k]→(qs++[p']).map TxnQ.e=(ps.take (k+1)).map TxnQ.e):=fun p' hp'=>by
    rw[List.take_succ_eq_append_getElem hlt,List.map_append,List.map_append,HE.out,List.map_singleton,List.map_singleton,hp']
   clear hc hc';generalize ps[k]=p at*;obtain⟨i,s,q,va,acts⟩:=p;replace hrd:actK.At wr va acts:=hrd;replace hzl:acts.length≤nmL TxnQ.n ps:=hzl;obtain⟨aa,ac,rfl⟩:=hrd.shape;dsimp only at c0 c1 c2 c3 hpos;obtain⟨ab,ao,haa⟩:∃ab ao,aa=some ⟨ab,ao,none⟩:=by
    rcases(z2g hrd).2 with h0|⟨ab,ao,e,_⟩
    ·have:=z0D acts;rw[h0]at this;simp at this;omega
    ·exact⟨ab,ao,e⟩
   subst haa;have hbY:Below wr.heap.size wr (wr.alloc (.cells #[.int .i64 i,.int .i64 s,.int .i64 q,.slice (some ⟨ab,ao,none⟩) acts.length ac] 44)):=by go_grown
   have hcl:=z5k i s q ab ao ac acts _ ((z2g hrd).2.below hbY) hpos (by omega);rw[Nat.add_zero]at c0;replace hO:=hO.below hbY;replace hb:=hb.trans (hbY.mono hb.size);clear HE hbY
   go_wp2_with fail
   clear c0 c1 c2 c3;generalize wr.alloc (.cells #[.int .i64 i,.int .i64 s,.int .i64 q,.slice (some ⟨ab,ao,none⟩) acts.length ac] 44)=Y at*;have hYs:w.heap.size≤Y.heap.size:=hb.size;refine hcl.mono ?_;rintro e w2 ⟨a2,c2,rfl,ho2,hb2⟩;have HLT:=hO.lt;replace hO:=hO.below hb2;replace hb:=hb.trans (hb2.mono hb.size);obtain⟨o2,hk2⟩:=z0U ho2;have hP:txnK.own w2 ⟨i,s,q,.slice a2 acts.length c2,acts⟩:=⟨o2,fun _ _=>trivial⟩
   have hPlo:∀x∈txnK.foot ⟨i,s,q,.slice a2 acts.length c2,acts⟩,Y.heap.size≤x:=fun x hx=>hk2 x (by rw[←z2h (.slice a2 acts.length c2) acts];exact hx)
   have hPn:(txnK.foot ⟨i,s,q,.slice a2 acts.length c2,acts⟩).Nodup:=by
    show(actK.fp _ _).Nodup;rw[z2h];exact z09 _
   have hbA:Below w2.heap.size w2 (w2.alloc (.cells #[.int .i64 i,.int .i64 s,.int .i64 q,.slice a2 acts.length c2] 44)):=by go_grown
   have hOA:=hO.below hbA;have hPA:=txnK.own_out (F:=[]) hP (Out.of_below hbA) (fun _ _=>by simp);have hbB:=hb.trans (hbA.mono hb.size);clear hcl ho2 hO hP hk2;have hrow0:=hOA.1
   go_wp2_with (at_builtin;refine wpList_append_own_at _ rfl _ _ 27 rfl 0 44 i0 (.agg #[.int .i64 0,.int .i64 0,.int .i64 0,.slice none 0 0]) 4 48 Tryz.underlying27 hi hz0 hz1 hz2 rfl (by decide) _ qs.length (txnK.row qs) rfl hrow0 ⟨w2.heap.size,0,none⟩ 1 1 [.int .i64 i,.int .i64 s,.int .i64 q,.slice a2 acts.length c2] rfl rfl ?c1 ?c2 ?c3 ?c4 ?c5 ?_)
   all_goals try(case c1=>intro j u hj;match j,hj with|0,hj=>simp at hj;subst hj;simp[Addr.add]|1,hj=>simp at hj;subst hj;simp[Addr.add]|2,hj=>simp at hj;subst hj;simp[Addr.add]|3,hj=>simp at hj;subst hj;simp[Addr.add])
   all_goals try(case c2=>intro u hu;simp at hu;rcases hu with rfl|rfl|rfl|rfl<;>rfl)
   all_goals try(case c3=>have:=HQL.out;unfold maxLen;omega)
   all_goals try(case c4=>have:=HQL.out;omega)
   all_goals try(case c5=>first|omega|simp)
   intro v' w5 hown hgrow hnil hat;clear hnil hrow0;rw[show w2.heap.size+1=(w2.alloc (.cells #[.int .i64 i,.int .i64 s,.int .i64 q,.slice a2 acts.length c2] 44)).heap.size from(World.size_alloc _ _).symm]at hat;generalize hwA:w2.alloc (.cells #[.int .i64 i,.int .i64 s,.int .i64 q,.slice a2 acts.length c2] 44)=WA at*;clear hwA;have hsz:Y.heap.size≤WA.heap.size:=by have:=hb2.size;have:=hbA.size;omega
   obtain⟨hO5,hn5,hlo5,hou⟩:=hOA.snoc HN.out.1 HN.out.2 hPA hPn (fun x hx hx'=>by have:=HLT x hx';have:=hPlo x hx;omega) (fun x hx=>by have:=hPlo x hx;omega) hbB.size hown hgrow hat;have hb5:Below w.heap.size w w5:=Out.keep hbB hou hbB.size (fun x hx=>HN.out.2 x (by simp only[Kind.fp,List.mem_append];exact Or.inl hx));have HE5:Hid ((qs++[(⟨i,s,q,.slice a2 acts.length c2,acts⟩:TxnQ)]).map TxnQ.e=(ps.take (k+1)).map TxnQ.e):=HPE.out _ rfl;have HN5:Hid ((txnK.fp v' (qs++[(⟨i,s,q,.slice a2 acts.length c2,acts⟩:TxnQ)])).Nodup∧∀k∈txnK.fp v' (qs++[(⟨i,s,q,.slice a2 acts.length c2,acts⟩:TxnQ)]),w.heap.size≤k):=⟨hn5,hlo5⟩
   clear HPE HN HLT hPlo hPn hPA hOA hbB hown hgrow hat hou hn5 hlo5 hrd hb hbA hb2 hzl hpos
   go_wp2
   go_roundw
   case rel=>exact⟨k+1,_,by omega,by go_num,HE5,hO5,HN5,hb5⟩
   case measure=>simp[intOf];omega
  ·have hkl:k=ps.length:=by omega
   subst hkl;have hE:=HE.out;rw[List.take_length]at hE;clear HE
   go_wp2
   go_ret;exact⟨_,qs,rfl,hE,hO,HN.out.1,HN.out.2,hb⟩
theorem z6s{F:List Nat}{w:World}{b o:Nat}(L:List Value)(ty:TypeId)(d:TypeDesc)(hr:w.rangeAt b o L)(hF:b∉F)(hu:Tryz.prog.underlying ty=some d)(hd:d.isRow=true)(hi:(Tryz.prog.info? ty).map (·.size)=some L.length):
  ∀u:LatO F w,(Instr.loadAt ty (.pointer (some ⟨b,o,none⟩))).run Tryz.prog u.val=.ok (.agg L.toArray) u.val:=fun u=>
 run_loadAt_mid u.val b o ty L d (fun j v hv=>z0m (hr j v hv) hF u) hu hd hi
theorem z0v(v:Value)(zs:List Int):(intK.fp v zs).Nodup:=by
 rw[z7q];exact z09 v
theorem z4I(rs:List RoundE)(w:World)(h:Wel rs)(h4:rs.length≤4):
  Calls Tryz.prog 103 #[.agg (rndC rs).toArray] w fun e w'=>∃v qs,e=.returned v∧qs.map RoundQ.e=rs∧roundK.Own w' v qs∧(roundK.fp v qs).Nodup∧(∀k∈roundK.fp v qs,w.heap.size≤k)∧Below w.heap.size w w':=by
 have B:=Blk.new w 91 (rndC rs).toArray;have hb0:Below w.heap.size w (w.alloc (.cells (rndC rs).toArray 91)):=by go_grown
 have hc:=z5Q rs;have hl4:(rs.length:Int)≤4:=by omega
 obtain⟨i0,hi,hz0,hz1,hz2⟩:=info_parts z2t;have HRG:Hid (∀r,r<rs.length→∀j v,(z0T (rs.getD r rnd0))[j]?=some v→(rndC rs)[1+r*6+j]?=some v):=fun r hr j v hv=>by
  have hj:=(List.getElem?_eq_some_iff.1 hv).1;rw[z0K (z1c h r hr)]at hj;rw[z6q h r hr j hj];exact hv
 generalize rndC rs=ds at*;go_enter Tryz.func103,Tryz.ntmps103
 go_wp2
 clear hc;generalize w.alloc (.cells ds.toArray 91)=W at*;obtain⟨hn1,hn2⟩:=Kind.own_nil (K:=roundK) W;have HN0:Hid ((roundK.fp (.slice none 0 0) ([]:List RoundQ)).Nodup∧∀k∈roundK.fp (.slice none 0 0) ([]:List RoundQ),W.heap.size≤k):=by
  rw[hn2];exact⟨by simp,by simp⟩
 clear hn2;go_loopw[3,11] (fun v j wr=>∃ (k:Nat) (qs:List RoundQ),k≤rs.length∧j=.int .i64 k∧Hid (qs.map RoundQ.e=rs.take k)∧roundK.Own wr v qs∧Hid ((roundK.fp v qs).Nodup∧∀k∈roundK.fp v qs,W.heap.size≤k)∧Below W.heap.size W wr) (fun _ j _=>rs.length-(intOf j).toNat)
 case atStart=>exact⟨0,[],Nat.zero_le _,rfl,(rfl:_=_),hn1,HN0,Below.refl _ _⟩
 case round=>
  clear HN0 hn1;obtain⟨k,qs,hk,rfl,HE,hO,HN,hb⟩:=hrel;obtain⟨sa,sc,rfl⟩:=hO.shape;by_cases hlt:k<rs.length
  ·have hwl:=z1c h k hlt;have HQL:Hid (qs.length≤4):=by
    have:=congrArg List.length HE.out;rw[List.length_map,List.length_take]at this;show qs.length≤4;omega
   have HPE:Hid (∀p':RoundQ,p'.e=rs.getD k rnd0→(qs++[p']).map RoundQ.e=rs.take (k+1)):=fun p' hp'=>by
    rw[List.take_succ_eq_append_getElem hlt,List.map_append,HE.out,List.map_singleton,hp'];simp[List.getD,hlt]
   have hrg1:=rng (B.below hb) (z0T (rs.getD k rnd0)) (o:=1+k*6) (fun j v hv=>by rw[List.getElem?_toArray];exact HRG.out k hlt j v hv);clear HE;generalize rs.getD k rnd0=q at*;obtain⟨qr,qp⟩:=q;obtain⟨l1,l2⟩:qr.length=3∧qp.length=3:=hwl;obtain⟨x0,x1,x2,rfl⟩:=z37 l1;obtain⟨y0,y1,y2,rfl⟩:=z37 l2;clear l1 l2;have hsz6:(Tryz.prog.info? 88).map (·.size)=some (z0T ⟨[x0,x1,x2],[y0,y1,y2]⟩).length:=z5U;have hsz6':(Tryz.prog.info? 88).map (·.size)=some (z0T ⟨[x0,x1,x2],[y0,y1,y2]⟩).toArray.size:=hsz6;have hBn:=Blk.new wr 88 #[.int .i64 0,.int .i64 0,.int .i64 0,.int .i64 0,.int .i64 0,.int .i64 0];have hB3:=hBn.row (z0T ⟨[x0,x1,x2],[y0,y1,y2]⟩).toArray;have hb3:Below W.heap.size W ((wr.alloc (.cells #[.int .i64 0,.int .i64 0,.int .i64 0,.int .i64 0,.int .i64 0,.int .i64 0] 88)).setRow wr.heap.size (z0T ⟨[x0,x1,x2],[y0,y1,y2]⟩).toArray):=z0a (hb.alloc hb.size _) hb.size _;have hb3r:Below wr.heap.size wr ((wr.alloc (.cells #[.int .i64 0,.int .i64 0,.int .i64 0,.int .i64 0,.int .i64 0,.int .i64 0] 88)).setRow wr.heap.size (z0T ⟨[x0,x1,x2],[y0,y1,y2]⟩).toArray):=z0a ((Below.refl _ _).alloc (Nat.le_refl _) _) (Nat.le_refl _) _;have hold:(#[.int .i64 0,.int .i64 0,.int .i64 0,.int .i64 0,.int .i64 0,.int .i64 0]:Array Value).size=(z0T ⟨[x0,x1,x2],[y0,y1,y2]⟩).toArray.size:=rfl;have hone:(z0T ⟨[x0,x1,x2],[y0,y1,y2]⟩).toArray.all (·.oneCell')=true:=z7C _;have HF:Hid (∀x∈roundK.fp (.slice sa qs.length sc) qs,x<wr.heap.size):=hO.lt;replace hO:=hO.below hb3r
   go_wp2_with (first|(refine z4F (by kernel_rfl) 88 _ rfl _ _ rfl (z0T ⟨[x0,x1,x2],[y0,y1,y2]⟩) _ hrg1 Tryz.underlying88 rfl hsz6 ?_)|(refine z0b (by kernel_rfl) 88 _ _ rfl _ (z0T ⟨[x0,x1,x2],[y0,y1,y2]⟩).toArray rfl rfl 88 _ hBn hsz6' hold hone ?_))
   clear hrg1 hsz6 hsz6' hold hone hBn hb3r;generalize (wr.alloc (.cells #[.int .i64 0,.int .i64 0,.int .i64 0,.int .i64 0,.int .i64 0,.int .i64 0] 88)).setRow wr.heap.size (z0T ⟨[x0,x1,x2],[y0,y1,y2]⟩).toArray=W3 at*;have hF:wr.heap.size∉blk (.slice sa qs.length sc):=fun hx=>by
    have:=HF.out _ (by simp only[Kind.fp,List.mem_append];exact Or.inl hx);omega
   have p0:=z6s (F:=blk (.slice sa qs.length sc)) ([x0,x1,x2].map iv) 86 _ (rng hB3 ([x0,x1,x2].map iv) (o:=0) (fun j v hv=>by match j,hv with|0,hv=>exact hv|1,hv=>exact hv|2,hv=>exact hv)) hF Tryz.underlying86 rfl z1v;have p1:=z6s (F:=blk (.slice sa qs.length sc)) ([y0,y1,y2].map iv) 86 _ (rng hB3 ([y0,y1,y2].map iv) (o:=3) (fun j v hv=>by match j,hv with|0,hv=>exact hv|1,hv=>exact hv|2,hv=>exact hv)) hF Tryz.underlying86 rfl z1v;have hnn:Nonempty (LatO (blk (.slice sa qs.length sc)) W3):=⟨⟨W3,Out.refl _ _⟩⟩
   have hW:Below W3.heap.size W3 W3.drew:=(Below.refl _ _).drew;have hnw:∀w',Below W3.heap.size W3 w'→∃u:LatO (blk (.slice sa qs.length sc)) W3,w'=u.val:=fun w' hw'=>⟨⟨w',Out.of_below hw'⟩,rfl⟩
   simp only[Act.put];refine z0i (S:=fun w'=>∃u:LatO (blk (.slice sa qs.length sc)) W3,w'=u.val) (by kernel_rfl) ?_;refine sgr [(0,2),(4,1)] 8 (by kernel_rfl) (hnw _ hW) ?_;simp only[pkE];repeat go_big_quiet_step (fail)
   refine wpQuiet_nil ?_;refine qta 2 (some 17) (.agg ([x0,x1,x2].map iv).toArray) 7 (by kernel_rfl) (fun u hu=>?_) (hnw _ hW) ?_
   ·obtain⟨u,rfl⟩:=hu;show some (((Instr.loadAt 86 (.pointer (some ⟨wr.heap.size,0,none⟩)))>>=fun x=>pure (Next.value x):Sem Next).run Tryz.prog u.val)=_;rw[Sem.run_bind,p0 u];rfl
   simp only[Act.put,pjE];refine qta 5 (some 20) (.agg ([y0,y1,y2].map iv).toArray) 6 (by kernel_rfl) (fun u hu=>?_) (hnw _ hW) ?_
   ·obtain⟨u,rfl⟩:=hu;show some (((Instr.loadAt 86 (.pointer (some ⟨wr.heap.size,3,none⟩)))>>=fun x=>pure (Next.value x):Sem Next).run Tryz.prog u.val)=_;rw[Sem.run_bind,p1 u];rfl
   simp only[Act.put,pjE];refine cla 3 (some 18) 104 #[.agg ([x0,x1,x2].map iv).toArray] 5 (by kernel_rfl) ?_;refine(z1G [x0,x1,x2] _ rfl).mono ?_;rintro e w8 ⟨a1,c1,rfl,o1,g1,_,hb8⟩;have L1:∀x∈intK.fp (.slice a1 3 c1) [x0,x1,x2],W3.heap.size≤x:=fun x hx=>by have:=g1 x hx;have:=hW.size;omega
   have M1:=o1.lt;replace hW:=hW.trans (hb8.mono hW.size);clear hb8 g1;refine⟨_,rfl,hnw _ hW,?_⟩;simp only[Act.put,pjE];refine cla 6 (some 21) 104 #[.agg ([y0,y1,y2].map iv).toArray] 4 (by kernel_rfl) ?_;refine(z1G [y0,y1,y2] _ rfl).mono ?_;rintro e w9 ⟨a2,c2,rfl,o2,g2,_,hb9⟩;have L2:∀x∈intK.fp (.slice a2 3 c2) [y0,y1,y2],W3.heap.size≤x:=fun x hx=>by have:=g2 x hx;have:=hW.size;omega
   have hdis:∀x∈intK.fp (.slice a1 3 c1) [x0,x1,x2],∀y∈intK.fp (.slice a2 3 c2) [y0,y1,y2],x≠y:=fun x hx y hy e=>by have:=M1 x hx;have:=g2 y hy;omega
   replace hW:=hW.trans (hb9.mono hW.size);replace o1:=o1.below hb9;clear hb9 g2 M1;refine⟨_,rfl,hnw _ hW,?_⟩;simp only[Act.put,pjE];refine qta 7 (some 22) (.agg #[.slice a1 3 c1,.slice a2 3 c2]) 3 (by kernel_rfl) (fun u _=>by kernel_rfl) (hnw _ hW) ?_;simp only[Act.put,pjE];refine ona 8 2 rfl (by kernel_rfl) ?_;have hbA:Below w9.heap.size w9 (w9.alloc (.cells #[.slice a1 3 c1,.slice a2 3 c2] 117)):=by go_grown
   replace hW:=hW.trans (hbA.mono hW.size);replace o1:=o1.below hbA;replace o2:=o2.below hbA;have hsrc:∀j u,[Value.slice a1 3 c1,.slice a2 3 c2][j]?=some u→(w9.alloc (.cells #[.slice a1 3 c1,.slice a2 3 c2] 117)).cell? ((⟨w9.heap.size,0,none⟩:Addr).add j)=some u:=by
    intro j u hj;match j,hj with|0,hj=>simp at hj;subst hj;simp[Addr.add]|1,hj=>simp at hj;subst hj;simp[Addr.add]
   go_wp2
   refine ThenGo.to ⟨hnw _ hW,?_⟩;generalize w9.alloc (.cells #[.slice a1 3 c1,.slice a2 3 c2] 117)=Z at*;clear hbA;have hO3:=hO.below hW;have hb9:=hb3.trans (hW.mono hb3.size);have hrow0:=hO3.1;refine ona 9 1 rfl (by kernel_rfl) ?_;refine wpList_append_own_at _ rfl _ _ 46 rfl 0 117 i0 (.agg #[.slice none 0 0,.slice none 0 0]) 2 48 Tryz.underlying46 hi hz0 hz1 hz2 rfl (by decide) _ qs.length (roundK.row qs) rfl hrow0 ⟨w9.heap.size,0,none⟩ 1 1 [.slice a1 3 c1,.slice a2 3 c2] rfl rfl hsrc ?c2 ?c3 ?c4 ?c5 ?_
   case c2=>intro u hu;simp at hu;rcases hu with rfl|rfl<;>rfl
   case c3=>have:=HQL.out;unfold maxLen;omega
   case c4=>have:=HQL.out;omega
   case c5=>omega
   intro v' w5 hown hgrow hnil hat;clear hnil hrow0 hsrc;have hW3:wr.heap.size≤W3.heap.size:=by have:=hB3.lt;omega
   obtain ⟨hO5,hn5,hlo5,hou⟩:=hO3.snoc (p:=⟨.slice a1 3 c1,[x0,x1,x2],.slice a2 3 c2,[y0,y1,y2]⟩) HN.out.1 HN.out.2 ⟨o1,o2⟩ (List.nodup_append.2 ⟨z0v _ _,z0v _ _,hdis⟩) (fun x hx hx' => by
    have:=HF.out x hx';rcases List.mem_append.1 hx with hx|hx
    ·have:=L1 x hx;omega
    ·have:=L2 x hx;omega) (fun x hx=>by
    have:=hb3.size;rcases List.mem_append.1 hx with hx|hx
    ·have:=L1 x hx;omega
    ·have:=L2 x hx;omega) hb9.size hown hgrow hat
   have hb5:Below W.heap.size W w5:=Out.keep hb9 hou hb9.size (fun x hx=>HN.out.2 x (by simp only[Kind.fp,List.mem_append];exact Or.inl hx));have hW5:Out (blk (.slice sa qs.length sc)) W3 w5:=(Out.of_below hW).trans hou;have HE5:Hid ((qs++[(⟨.slice a1 3 c1,[x0,x1,x2],.slice a2 3 c2,[y0,y1,y2]⟩:RoundQ)]).map RoundQ.e=rs.take (k+1)):=HPE.out _ rfl;have HN5:Hid ((roundK.fp v' (qs++[(⟨.slice a1 3 c1,[x0,x1,x2],.slice a2 3 c2,[y0,y1,y2]⟩:RoundQ)])).Nodup∧∀k∈roundK.fp v' (qs++[(⟨.slice a1 3 c1,[x0,x1,x2],.slice a2 3 c2,[y0,y1,y2]⟩:RoundQ)]),W.heap.size≤k):=⟨hn5,hlo5⟩
   clear hn5 hlo5 hou HPE HN HF o1 o2 L1 L2 hdis hown hgrow hat hO3 hO hb9 hb3
   go_wp2
   refine ThenGo.to ⟨⟨⟨_,hW5⟩,rfl⟩,?_⟩;simp only[Act.put,pgE,pjE];refine sgr [(10,1)] 0 (by kernel_rfl) ⟨⟨_,hW5⟩,rfl⟩ ?_;simp only[pkE];repeat go_big_quiet_step (fail)
   refine wpQuiet_nil ?_;refine z0n (by kernel_rfl) ?_;clear p0 p1 hnn hW hW5 hnw hB3 hF
   go_wp2
   go_roundw
   case rel=>exact⟨k+1,_,by omega,by go_num,HE5,hO5,HN5,hb5⟩
   case measure=>simp[intOf];omega
  ·have hkl:k=rs.length:=by omega
   subst hkl;have hE:=HE.out;rw[List.take_length]at hE;clear HE;have hws:=hb0.size
   go_wp2
   go_ret;exact⟨_,qs,rfl,hE,hO,HN.out.1,fun x hx=>by have:=HN.out.2 x hx;omega,hb0.trans (hb.mono hb0.size)⟩
theorem z0d(w:World)(g:Nat)(cs:Array Value):Out [g] w (w.setRow g cs):=
 ⟨rfl,rfl,rfl,by rw[setRow_size];exact Nat.le_refl _,fun k _ hn=>setRow_other w g k cs (by simpa using hn)⟩
theorem z0k:(Tryz.prog.info? 49).map (·.size)=some 4:=by kernel_rfl
theorem z5r(has:Bool)(vb:Value)(bt:List TxnQ)(rs:List RoundE)(dec:List Int)(w:World)(hT:txnK.At w vb bt)(hne:∀p∈bt,0<p.acts.length)(hl:bt.length+nmL TxnQ.n bt≤1048576)(hwel:Wel rs)(h4:rs.length≤4)(h3:dec.length=3):
  Calls Tryz.prog 61 #[.agg (brdC has vb rs dec).toArray] w fun e w'=>∃q:InstQ,e=.returned (.agg #[.bool q.has,q.vb,q.vr,q.vd])∧q.e=⟨has,bt.map TxnQ.e,rs,dec⟩∧instK.own w' q∧(instK.foot q).Nodup∧(∀k∈instK.foot q,w.heap.size≤k)∧Below w.heap.size w w':=by
 have B:=Blk.new w 93 (brdC has vb rs dec).toArray;have hc1:=fun w (hT:txnK.At w vb bt)=>z1H vb bt w hT hne hl
 have hc2:=fun w=>z4I rs w hwel h4
 have hc3:=fun w=>z1G dec w h3
 have hsR:(Tryz.prog.info? 91).map (·.size)=some (rndC rs).length:=by rw[z0r hwel h4];exact z1V
 have hsD:(Tryz.prog.info? 86).map (·.size)=some (dec.map iv).length:=by rw[List.length_map,h3];exact z1v
 have hfac:Hid ((brdC has vb rs dec)[25]?=some (.bool has)∧(brdC has vb rs dec)[26]?=some vb∧(∀j v,(rndC rs)[j]?=some v→(brdC has vb rs dec)[0+j]?=some v)∧∀j v,(dec.map iv)[j]?=some v→(brdC has vb rs dec)[27+j]?=some v):=by
  refine⟨z7x hwel h4,z9r hwel h4,fun j v hv=>?_,fun j v hv=>?_⟩
  ·have hj:=(List.getElem?_eq_some_iff.1 hv).1;rw[z0r hwel h4]at hj;rw[Nat.zero_add,z3L hwel h4 j hj];exact hv
  ·obtain⟨hj,rfl⟩:=row_get h3 hv;exact z5T hwel h4 h3 j hj
 generalize brdC has vb rs dec=ds at*;have hb0:Below w.heap.size w ((w.alloc (.cells ds.toArray 93)).alloc (.cells #[.bool false,.slice none 0 0,.slice none 0 0,.slice none 0 0] 49)):=by go_grown
 have hbb:Below (w.alloc (.cells ds.toArray 93)).heap.size (w.alloc (.cells ds.toArray 93)) ((w.alloc (.cells ds.toArray 93)).alloc (.cells #[.bool false,.slice none 0 0,.slice none 0 0,.slice none 0 0] 49)):=by go_grown
 have R:=Blk.new (w.alloc (.cells ds.toArray 93)) 49 #[.bool false,.slice none 0 0,.slice none 0 0,.slice none 0 0];rw[World.size_alloc]at R;replace B:=B.below hbb;clear hbb;go_enter Tryz.func61,Tryz.ntmps61
 go_wp2_with fail
 have hws:w.heap.size+2≤((w.alloc (.cells ds.toArray 93)).alloc (.cells #[.bool false,.slice none 0 0,.slice none 0 0,.slice none 0 0] 49)).heap.size:=by simp
 generalize ((w.alloc (.cells ds.toArray 93)).alloc (.cells #[.bool false,.slice none 0 0,.slice none 0 0,.slice none 0 0] 49))=W at*;have hF:w.heap.size∉[w.heap.size+1]:=by simp
 have p0:=z0m (F:=[w.heap.size+1]) (B.cell 25 (.bool has) (by rw[List.getElem?_toArray];exact hfac.out.1)) hF;have p1:=z0m (F:=[w.heap.size+1]) (B.cell 26 vb (by rw[List.getElem?_toArray];exact hfac.out.2.1)) hF;have p2:=z6s (F:=[w.heap.size+1]) (rndC rs) 91 _ (rng B (rndC rs) (o:=0) (fun j v hv=>by rw[List.getElem?_toArray];exact hfac.out.2.2.1 j v hv)) hF Tryz.underlying91 rfl hsR;have p3:=z6s (F:=[w.heap.size+1]) (dec.map iv) 86 _ (rng B (dec.map iv) (o:=27) (fun j v hv=>by rw[List.getElem?_toArray];exact hfac.out.2.2.2 j v hv)) hF Tryz.underlying86 rfl hsD;obtain⟨ba,bk,rfl⟩:=hT.shape;clear hsR hsD hfac;generalize rndC rs=dr at*;have hnn:Nonempty (LatO [w.heap.size+1] W):=⟨⟨W,Out.refl _ _⟩⟩
 have hW:Below W.heap.size W W.drew:=(Below.refl _ _).drew;have hnw:∀w',Below W.heap.size W w'→∃u:LatO [w.heap.size+1] W,w'=u.val:=fun w' hw'=>⟨⟨w',Out.of_below hw'⟩,rfl⟩
 refine z0i (S:=fun w'=>∃u:LatO [w.heap.size+1] W,w'=u.val) (by kernel_rfl) ?_;refine sgr [(0,4),(5,1),(8,1)] 7 (by kernel_rfl) (hnw _ hW) ?_;simp only[pkE];repeat go_big_quiet_step (fail)
 refine wpQuiet_nil ?_;refine qta 6 (some 9) (.agg dr.toArray) 6 (by kernel_rfl) (fun u hu=>?_) (hnw _ hW) ?_
 ·obtain⟨u,rfl⟩:=hu;show some (((Instr.loadAt 91 (.pointer (some ⟨w.heap.size,0,none⟩)))>>=fun x=>pure (Next.value x):Sem Next).run Tryz.prog u.val)=_;rw[Sem.run_bind,p2 u];rfl
 simp only[Act.put,pjE];refine qta 9 (some 12) (.agg (dec.map iv).toArray) 5 (by kernel_rfl) (fun u hu=>?_) (hnw _ hW) ?_
 ·obtain⟨u,rfl⟩:=hu;show some (((Instr.loadAt 86 (.pointer (some ⟨w.heap.size,27,none⟩)))>>=fun x=>pure (Next.value x):Sem Next).run Tryz.prog u.val)=_;rw[Sem.run_bind,p3 u];rfl
 simp only[Act.put,pjE];refine cla 4 (some 7) 36 #[.slice ba bt.length bk] 4 (by kernel_rfl) ?_;refine(hc1 _ (hT.below (hb0.trans (hW.mono hb0.size)))).mono ?_;rintro e w1 ⟨v1,q1,rfl,e1,o1,n1,g1,hb⟩;have L1:∀x∈txnK.fp v1 q1,W.heap.size≤x:=fun x hx=>by have:=g1 x hx;have:=hW.size;omega
 have M1:=o1.lt;replace hW:=hW.trans (hb.mono hW.size);clear hb g1;refine⟨_,rfl,hnw _ hW,?_⟩;simp only[Act.put,pjE];refine cla 7 (some 10) 103 #[.agg dr.toArray] 3 (by kernel_rfl) ?_;refine(hc2 _).mono ?_;rintro e w2 ⟨v2,q2,rfl,e2,o2,n2,g2,hb⟩;have L2:∀x∈roundK.fp v2 q2,W.heap.size≤x:=fun x hx=>by have:=g2 x hx;have:=hW.size;omega
 have D12:∀x∈txnK.fp v1 q1,∀y∈roundK.fp v2 q2,x≠y:=fun x hx y hy e=>by have:=M1 x hx;have:=g2 y hy;omega
 have M2:=o2.lt;have hs12:=hb.size;replace o1:=o1.below hb;replace hW:=hW.trans (hb.mono hW.size);clear hb g2;refine⟨_,rfl,hnw _ hW,?_⟩;simp only[Act.put,pjE];refine cla 10 (some 13) 104 #[.agg (dec.map iv).toArray] 2 (by kernel_rfl) ?_;refine(hc3 _).mono ?_;rintro e w3 ⟨a3,c3,rfl,o3,g3,_,hb⟩;have L3:∀x∈intK.fp (.slice a3 3 c3) dec,W.heap.size≤x:=fun x hx=>by have:=g3 x hx;have:=hW.size;omega
 have D13:∀x∈txnK.fp v1 q1,∀y∈intK.fp (.slice a3 3 c3) dec,x≠y:=fun x hx y hy e=>by have:=M1 x hx;have:=g3 y hy;omega
 have D23:∀x∈roundK.fp v2 q2,∀y∈intK.fp (.slice a3 3 c3) dec,x≠y:=fun x hx y hy e=>by have:=M2 x hx;have:=g3 y hy;omega
 replace o1:=o1.below hb;replace o2:=o2.below hb;replace hW:=hW.trans (hb.mono hW.size);clear hb g3 M1 M2 hs12;obtain⟨s1,t1,rfl⟩:=o1.shape;obtain⟨s2,t2,rfl⟩:=o2.shape;refine⟨_,rfl,hnw _ hW,?_⟩;simp only[Act.put,pjE];refine qta 11 (some 14) (.agg #[.bool has,.slice s1 q1.length t1,.slice s2 q2.length t2,.slice a3 3 c3]) 1 (by kernel_rfl) (fun u _=>by kernel_rfl) (hnw _ hW) ?_;simp only[Act.put,pjE];have R3:=R.below hW;refine ona 12 0 rfl (by kernel_rfl) ?_;have hRr:=R3.row #[.bool has,.slice s1 q1.length t1,.slice s2 q2.length t2,.slice a3 3 c3];have hou:=z0d w3 (w.heap.size+1) #[.bool has,.slice s1 q1.length t1,.slice s2 q2.length t2,.slice a3 3 c3];have hWo:Out [w.heap.size+1] W (w3.setRow (w.heap.size+1) #[.bool has,.slice s1 q1.length t1,.slice s2 q2.length t2,.slice a3 3 c3]):=(Out.of_below hW).trans hou;refine z0b (by kernel_rfl) 49 _ _ rfl _ #[.bool has,.slice s1 q1.length t1,.slice s2 q2.length t2,.slice a3 3 c3] rfl rfl 49 _ R3 z0k rfl (by simp[Value.oneCell']) ?_
 go_wp2
 refine ThenGo.to ⟨⟨⟨_,hWo⟩,rfl⟩,?_⟩;refine z0n (by kernel_rfl) ?_;have hnm:∀x,W.heap.size≤x→x∉[w.heap.size+1]:=fun x hx=>by simp only[List.mem_singleton];omega
 have o1':=o1.out hou (fun x hx=>hnm x (L1 x hx));have o2':=o2.out hou (fun x hx=>hnm x (L2 x hx));have o3':=o3.out hou (fun x hx=>hnm x (L3 x hx));have hBe:Below w.heap.size w (w3.setRow (w.heap.size+1) #[.bool has,.slice s1 q1.length t1,.slice s2 q2.length t2,.slice a3 3 c3]):=z0a (hb0.trans (hW.mono hb0.size)) (by omega) _;clear p0 p1 p2 p3 hnn hnw hc1 hc2 hc3 hou hWo o1 o2 o3 R3;generalize w3.setRow (w.heap.size+1) #[.bool has,.slice s1 q1.length t1,.slice s2 q2.length t2,.slice a3 3 c3]=w4 at*;have p0:=hRr.cell 0 _ rfl;have p1:=hRr.cell 1 _ rfl;have p2:=hRr.cell 2 _ rfl;have p3:=hRr.cell 3 _ rfl
 go_wp2
 refine bodyPost_ret (v:=.agg #[.bool has,.slice s1 q1.length t1,.slice s2 q2.length t2,.slice a3 3 c3]) (by simp[results,Tryz.results61,go_sem,p0,p1,p2,p3]) rfl ?_;refine⟨⟨has,.slice s1 q1.length t1,q1,.slice s2 q2.length t2,q2,.slice a3 3 c3,dec⟩,rfl,?_,⟨o1',o2',o3'⟩,?_,?_,hBe⟩
 ·simp only[InstQ.e,e1,e2]
 ·exact List.nodup_append.2 ⟨n1,List.nodup_append.2 ⟨n2,z0v _ _,D23⟩,fun x hx y hy=>by
   rcases List.mem_append.1 hy with hy|hy
   ·exact D12 x hx y hy
   ·exact D13 x hx y hy⟩
 ·intro x hx;rcases List.mem_append.1 hx with hx|hx
  ·have:=L1 x hx;omega
  ·rcases List.mem_append.1 hx with hx|hx
   ·have:=L2 x hx;omega
   ·have:=L3 x hx;omega
end Go.Proofs.YtfpponhjhbfbeaaGreatDoor

import Derived.Test.YtjjoahhnkpjolaaGreatDoorONAO
set_option linter.unusedVariables false
set_option linter.unusedSimpArgs false
set_option maxRecDepth 100000
set_option maxHeartbeats 4000000
namespace Go.Proofs.YtjjoahhnkpjolaaGreatDoor
open Go.RowKit Go.BigFrame
open InstQ renaming e->o,n->f
open Nat renaming le_refl->Va,zero_le->Vb
open List renaming length_map->Vc,getElem_mem->Vd
open IntKind renaming i64->S
open Value renaming int->Q,slice->H
open Go.Proofs.Tryz renaming prog->t
open Go.Proofs.Tryz
theorem q5l(c v:Int)(w:World):(Instr.field 42 (.agg #[Q S c,Q S v]) 0).run t w=.ok (Q S c) w:=by kernel_rfl
theorem q5m(c v:Int)(w:World):(Instr.field 42 (.agg #[Q S c,Q S v]) 1).run t w=.ok (Q S v) w:=by kernel_rfl
theorem q6a(x:InstE):(ocC x==0)=((insF x==0) && (outV x.dec !=3)):=by
 unfold ocC;by_cases h0:insF x=0
 ·rw[if_pos h0,h0];by_cases h3:outV x.dec=3
  ·rw[if_pos h3,h3];rfl
  ·rw[if_neg h3];have:(outV x.dec !=3)=true:=by simpa using h3
   rw[this];rfl
 ·rw[if_neg h0];have:(insF x==0)=false:=by simpa using h0
  rw[this];rfl
theorem z5G(ps:List InstQ)(k:Nat)(hk:k<ps.length):(ps.map o).getD k z0W=o ps[k]:=by simp[List.getD,hk]
theorem z6O(ps:List InstQ)(k:Nat)(hk:k<ps.length):f ps[k]≤nmL f ps:=z01 f ps k hk
theorem z7u{w:World}{a:Option Addr}{n cap:Nat}{ps:List InstQ}(h:instK.At w (H a n cap) ps)(k:Nat)(hk:k<ps.length):∃b off,a=some ⟨b,off,none⟩∧b<w.heap.size∧InstP w b (off+k*4) ps[k]:=by
 obtain⟨b,off,e,hb,hc,hrd⟩:=h.cell (by decide) k hk;have hc':∀j x,(instK.cells ps[k])[j]?=some x→w.cell? ⟨b,off+k*4+j,none⟩=some x:=hc;exact⟨b,off,e,hb,⟨hc' 0 (.bool ps[k].has) rfl,hc' 1 ps[k].vb rfl,hc' 2 ps[k].vr rfl,hc' 3 ps[k].vd rfl⟩,hrd⟩
theorem z3p(p:InstQ)(w:World)(hG:Rul w)(h:instK.rd w p)(hl:p.n≤1048576):
  Calls t 45 #[.agg #[.bool p.has,p.vb,p.vr,p.vd]] w fun e w'=>e=.returned (.bool (ocC p.e==0))∧Below w.heap.size w w':=by
 have y:=fun w hG h=>z2O p w hG h hl
 have z:=fun(w':World) hb=>instK.rd_below (w':=w') h hb
 generalize ocC p.e=D at*;generalize ocV p.e=E at*;obtain⟨has,vb,x,vr,d,vd,dec⟩:=p;obtain⟨ba,bk,rfl⟩:∃a c,vb=H a x.length c:=h.1.shape;obtain⟨va,vk,rfl⟩:∃a c,vr=H a d.length c:=h.2.1.shape;obtain⟨da,dk,rfl⟩:∃a c,vd=H a dec.length c:=h.2.2.shape;dsimp only at y z;have C:=q5l D E;have hB:Below w.heap.size w (w.alloc (.cells #[.bool has,H ba x.length bk,H va d.length vk,H da dec.length dk] 89)):=by go_grown
 go_enter func45,ntmps45
 go_wp2_with fail
 generalize w.alloc (.cells #[.bool has,H ba x.length bk,H va d.length vk,H da dec.length dk] 89)=W at*;refine(y W (hG.below hB) (z W hB)).mono ?_;rintro e w1 ⟨rfl,A⟩;replace hB:=hB.trans (A.mono hB.size)
 go_wp2
 go_ret;exact⟨rfl,hB⟩
theorem z12(v:Value)(ps:List InstQ)(w:World)(hG:Rul w)(h:instK.At w v ps)(hl:(ps.length+nmL f ps)≤1048576):
  Calls t 25 #[v] w fun e w'=>e=.returned (Q S (ordF (ps.map o)))∧Below w.heap.size w w':=by
 obtain⟨a,cap,rfl⟩:=h.shape;generalize hE:ordF (ps.map o)=E;have HE:Hid (ordF (ps.map o)=E):=hE;clear hE;by_cases z:ps.length<1∨4<ps.length
 ·have E1:Hid (E=2):=by
   have:=HE.out;unfold ordF at this;rw[if_pos (by simpa using z)]at this;exact this.symm
  clear HE;rcases z with z|z
  ·go_enter func25,ntmps25
   go_wp2
   go_ret;exact⟨by rw[E1.out];rfl,Below.refl _ _⟩
  ·have h1:¬ps.length<1:=by omega
   go_enter func25,ntmps25
   go_wp2
   go_ret;exact⟨by rw[E1.out];rfl,Below.refl _ _⟩
 ·have HG:Hid (E=z1T (ps.map o)):=by
   have:=HE.out;unfold ordF at this;rw[if_neg (by simpa using z)]at this;exact this.symm
  have h1:¬ps.length<1:=by omega
  have h4:ps.length≤4:=by omega
  clear HE z;go_enter func25,ntmps25
  go_wp2
  go_loopw[16] (fun i wr=>∃k:Nat,k≤ps.length∧i=Q S k∧Hid (E=z1T ((ps.map o).drop k))∧Below w.heap.size w wr) (fun i _=>ps.length-(intOf i).toNat)
  case atStart=>exact⟨0,Vb _,rfl,HG,Below.refl _ _⟩
  case round=>
   clear HG;obtain⟨k,hk,rfl,HG,hb⟩:=hrel;by_cases T:k<ps.length
   ·have J:=z5G ps k T;have D:Hid (insF (o ps[k])≠0→E=insF (o ps[k])):=fun hx=>by
     rw[HG.out,z8x _ k (by simpa using T) (by rw[J];exact hx),J]
    have I:Hid (k+1<ps.length→insF (o ps[k])=0→outV (o ps[k]).dec=3→E=8):=fun h1 h2 h3=>by
     rw[HG.out,z6M _ k (by simpa using h1) (by rw[J];exact h2) (by rw[J];exact h3)]
    have y:Hid (insF (o ps[k])=0→¬(k+1<ps.length∧outV (o ps[k]).dec=3)→E=z1T ((ps.map o).drop (k+1))):=fun h2 h3=>by
     rw[HG.out,z6N _ k (by simpa using T) (by rw[J];exact h2) (by rw[J];simpa using h3)]
    have hn:f ps[k]≤1048576:=by have:=z6O ps k T;omega
    have X:=z2N ps[k];have W:=z3p ps[k];have Y:=fun w hG h=>X w hG h hn
    have O:=fun w hG h=>W w hG h hn
    clear X W;have L:=q6a (o ps[k]);clear J HG;obtain⟨b,ag,rfl,ai,hc,V⟩:=(h.below hb).cell (by decide) k T;have N:∀j x,(instK.cells ps[k])[j]?=some x→wr.cell? ⟨b,ag+k*4+j,none⟩=some x:=hc;have c0:=N 0 (.bool ps[k].has) rfl;have c1:=N 1 ps[k].vb rfl;have c2:=N 2 ps[k].vr rfl;have c3:=N 3 ps[k].vd rfl;rw[Nat.add_zero]at c0;clear hc N;have Z:=fun(w':World) hb=>instK.rd_below (w':=w') V hb
    generalize ocC (o ps[k])=OC at*;generalize outV (o ps[k]).dec=OV at*;generalize insF (o ps[k])=C at*;generalize ps[k]=p at*;obtain⟨has,vb,A,vr,d,vd,dec⟩:=p;obtain⟨ba,bk,rfl⟩:∃a c,vb=H a A.length c:=V.1.shape;obtain⟨va,vk,rfl⟩:∃a c,vr=H a d.length c:=V.2.1.shape;obtain⟨da,dk,rfl⟩:∃a c,vd=H a dec.length c:=V.2.2.shape;dsimp only at c0 c1 c2 c3 Y O Z;have M:Below wr.heap.size wr (wr.alloc (.cells #[.bool has,H ba A.length bk,H va d.length vk,H da dec.length dk] 89)):=by go_grown
    have Bk:=Blk.new wr 89 #[.bool has,H ba A.length bk,H va d.length vk,H da dec.length dk];have aa:=Z _ M
    go_wp2_with fail
    generalize wr.alloc (.cells #[.bool has,H ba A.length bk,H va d.length vk,H da dec.length dk] 89)=W1 at*;refine(Y W1 (hG.below (hb.trans (M.mono hb.size))) aa).mono ?_;rintro e w2 ⟨rfl,U⟩;have ae:=instK.rd_below aa U;replace Bk:=Bk.below U;replace hb:=(hb.trans (M.mono hb.size)).trans (U.mono (hb.trans (M.mono hb.size)).size);clear M U aa Y c0 c1 c2 c3 Z;by_cases hC:C=0
    ·subst hC;by_cases ad:k+1<ps.length
     ·have af:(k:Int)<(ps.length:Int)-1:=by omega
      obtain⟨p0,p1,p2,p3⟩:=Bk.cel4
      go_wp2_with fail
      refine(O w2 (hG.below hb) ae).mono ?_;rintro e w3 ⟨rfl,ab⟩;replace hb:=hb.trans (ab.mono hb.size);clear ab O p0 p1 p2 p3 Bk ae;by_cases hO:OV=3
      ·have e1:(OC==0)=false:=by rw[L,hO];rfl
       have E1:Hid (E=8):=I.out ad (by simp) hO;clear L I y D
       go_wp2
       go_ret;exact⟨by rw[E1.out];rfl,hb⟩
      ·have e1:(OC==0)=true:=by
        rw[L];have:(OV !=3)=true:=by simpa using hO
        rw[this];rfl
       have E1:Hid (E=z1T ((ps.map o).drop (k+1))):=y.out (by simp) (fun h=>hO h.2);clear L I y D
       go_wp2
       go_roundw
       case rel=>exact⟨k+1,by omega,by go_num,E1.out,hb⟩
       case measure=>simp[intOf];omega
     ·have af:¬(k:Int)<(ps.length:Int)-1:=by omega
      have E1:Hid (E=z1T ((ps.map o).drop (k+1))):=y.out (by simp) (fun h=>ad h.1);clear L I y D O
      go_wp2
      go_roundw
      case rel=>exact⟨k+1,by omega,by go_num,E1.out,hb⟩
      case measure=>simp[intOf];omega
    ·have ah:(C !=0)=true:=by simpa using hC
     have E1:Hid (E=C):=D.out hC;clear L I y D O
     go_wp2
     go_ret;exact⟨by rw[E1.out];rfl,hb⟩
   ·have E1:Hid (E=0):=by rw[HG.out];exact z8y _ k (by simp;omega)
    clear HG
    go_wp2
    go_ret;exact⟨by rw[E1.out];rfl,hb⟩
theorem z5H(v:Value)(ps:List InstQ)(w:World)(h:instK.At w v ps)(hl:(ps.length+nmL f ps)≤1048576):
  Calls t 40 #[v] w fun e w'=>e=.returned (Q S (ordF (ps.map o)))∧Below w.heap.size w w':=by
 obtain⟨a,cap,rfl⟩:=h.shape;generalize hE:ordF (ps.map o)=E;have HE:Hid (ordF (ps.map o)=E):=hE;clear hE;by_cases x:ps.length<1∨4<ps.length
 ·have E1:Hid (E=2):=by
   have:=HE.out;unfold ordF at this;rw[if_pos (by simpa using x)]at this;exact this.symm
  clear HE;rcases x with x|x
  ·go_enter func40,ntmps40
   go_wp2
   go_ret;exact⟨by rw[E1.out];rfl,Below.refl _ _⟩
  ·have h1:¬ps.length<1:=by omega
   go_enter func40,ntmps40
   go_wp2
   go_ret;exact⟨by rw[E1.out];rfl,Below.refl _ _⟩
 ·have HG:Hid (E=z1T (ps.map o)):=by
   have:=HE.out;unfold ordF at this;rw[if_neg (by simpa using x)]at this;exact this.symm
  have h1:¬ps.length<1:=by omega
  have h4:ps.length≤4:=by omega
  clear HE x;go_enter func40,ntmps40
  go_wp2
  go_loopw[3] (fun i wr=>∃k:Nat,k≤ps.length∧i=Q S k∧Hid (E=z1T ((ps.map o).drop k))∧Below w.heap.size w wr) (fun i _=>ps.length-(intOf i).toNat)
  case atStart=>exact⟨0,Vb _,rfl,HG,Below.refl _ _⟩
  case round=>
   clear HG;obtain⟨k,hk,rfl,HG,hb⟩:=hrel;by_cases A:k<ps.length
   ·have z:=z5G ps k A;have y:Hid (insF (o ps[k])≠0→E=insF (o ps[k])):=fun hx=>by
     rw[HG.out,z8x _ k (by simpa using A) (by rw[z];exact hx),z]
    have d:Hid (k+1<ps.length→insF (o ps[k])=0→outV (o ps[k]).dec=3→E=8):=fun h1 h2 h3=>by
     rw[HG.out,z6M _ k (by simpa using h1) (by rw[z];exact h2) (by rw[z];exact h3)]
    have c:Hid (insF (o ps[k])=0→¬(k+1<ps.length∧outV (o ps[k]).dec=3)→E=z1T ((ps.map o).drop (k+1))):=fun h2 h3=>by
     rw[HG.out,z6N _ k (by simpa using A) (by rw[z];exact h2) (by rw[z];simpa using h3)]
    obtain⟨b,T,rfl,X,hP⟩:=z7u (h.below hb) k A;have hn:f ps[k]≤1048576:=by have:=z6O ps k A;omega
    have J:=z9y b (T+k*4) ps[k];have I:=z2n b (T+k*4) ps[k];have M:=fun w hP=>J w hP hn
    have D:=fun w hP=>I w hP hn
    clear J I;have O:outV (o ps[k]).dec=outV ps[k].dec:=rfl;rw[O]at d c;clear z HG O;generalize outV ps[k].dec=OV at*;generalize insF (o ps[k])=C at*;generalize ps[k]=p at*
    go_wp2_with fail
    refine(M wr hP).mono ?_;rintro e w2 ⟨rfl,L⟩;replace hP:=hP.below L;replace hb:=hb.trans (L.mono hb.size);clear L M;by_cases hC:C=0
    ·subst hC;by_cases N:k+1<ps.length
     ·have V:(k:Int)<(ps.length:Int)-1:=by omega
      go_wp2_with fail
      refine(D w2 hP).mono ?_;rintro e w3 ⟨rfl,hw⟩;replace hw:=hw.symm;subst hw;clear D hP;by_cases hO:OV=3
      ·have E1:Hid (E=8):=d.out N (by simp) hO;have U:(OV==3)=true:=by simpa using hO
       clear d c y hO
       go_wp2
       go_ret;exact⟨by rw[E1.out];rfl,hb⟩
      ·have U:(OV==3)=false:=by simpa using hO
       have E1:Hid (E=z1T ((ps.map o).drop (k+1))):=c.out (by simp) (fun h=>hO h.2);clear d c y hO
       go_wp2
       go_roundw
       case rel=>exact⟨k+1,by omega,by go_num,E1.out,hb⟩
       case measure=>simp[intOf];omega
     ·have V:¬(k:Int)<(ps.length:Int)-1:=by omega
      have E1:Hid (E=z1T ((ps.map o).drop (k+1))):=c.out (by simp) (fun h=>N h.1);clear d c y D
      go_wp2
      go_roundw
      case rel=>exact⟨k+1,by omega,by go_num,E1.out,hb⟩
      case measure=>simp[intOf];omega
    ·have W:(C !=0)=true:=by simpa using hC
     have E1:Hid (E=C):=y.out hC;clear d c y D
     go_wp2
     go_ret;exact⟨by rw[E1.out];rfl,hb⟩
   ·have E1:Hid (E=0):=by rw[HG.out];exact z8y _ k (by simp;omega)
    clear HG
    go_wp2
    go_ret;exact⟨by rw[E1.out];rfl,hb⟩
def diV(ds:List InstE):Int:=if ordF ds=0 then(decN ds:Int)else 0
theorem z7v(ps:List InstQ)(hlt:ps.length-1<ps.length):q5k (ps.map o)=o ps[ps.length-1]:=by
 unfold q5k;rw[Vc];exact z5G ps _ hlt
theorem z1A(v:Value)(ps:List InstQ)(w:World)(hG:Rul w)(h:instK.At w v ps)(hl:(ps.length+nmL f ps)≤1048576):
  Calls t 46 #[v] w fun e w'=>e=.returned (.agg #[Q S (ordF (ps.map o)),Q S (diV (ps.map o))])∧Below w.heap.size w w':=by
 have Y:=fun w hG h=>z12 v ps w hG h hl
 have HO:Hid (ordF (ps.map o)=0→1≤ps.length∧ps.length≤4∧∀q∈ps,insF (o q)=0):=fun h0=>by
  have:=((z15 _).1 h0).1;rw[Vc]at this;exact⟨this.1,this.2,fun q hq=>z1L h0 _ (List.mem_map.2 ⟨q,hq,rfl⟩)⟩
 have HV:Hid ((ordF (ps.map o)=0→diV (ps.map o)=(decN (ps.map o):Int))∧(ordF (ps.map o)≠0→diV (ps.map o)=0)):=⟨fun h0=>if_pos h0,fun h0=>if_neg h0⟩
 obtain⟨a,cap,rfl⟩:=h.shape;generalize ordF (ps.map o)=C at*;generalize diV (ps.map o)=V at*;have hB:Below w.heap.size w (w.alloc (.cells #[Q S 0,Q S 0] 42)):=by go_grown
 have Rb:=Blk.new w 42 #[Q S 0,Q S 0];go_enter func46,ntmps46
 go_wp2_with fail
 generalize w.alloc (.cells #[Q S 0,Q S 0] 42)=W at*;refine(Y W (hG.below hB) (h.below hB)).mono ?_;rintro e w1 ⟨rfl,hb⟩;replace hB:=hB.trans (hb.mono hB.size);replace Rb:=Rb.below hb;clear hb Y;by_cases hC:C=0
 ·obtain⟨h1,h4,X⟩:=HO.out hC;have hv:=HV.out.1 hC;subst hC;have y:ps.length-1<ps.length:=by omega
  have M:=X _ (Vd y);have z:=q6a (o ps[ps.length-1]);have D:Hid (outV (o ps[ps.length-1]).dec=3→V=(ps.length:Int)-1):=fun h3=>by
   rw[hv];unfold decN;rw[z7v ps y,if_pos h3,Vc];omega
  have E:Hid (outV (o ps[ps.length-1]).dec≠3→V=(ps.length:Int)):=fun h3=>by
   rw[hv];unfold decN;rw[z7v ps y,if_neg h3,Vc]
  rw[M]at z;have hn:f ps[ps.length-1]≤1048576:=by have:=z6O ps _ y;omega
  have L:=z3p ps[ps.length-1];have T:=fun w hG h=>L w hG h hn
  clear L X M hv HV HO hn;obtain⟨b,aa,rfl,ad,hc,I⟩:=(h.below hB).cell (by decide) (ps.length-1) y;have d:∀j x,(instK.cells ps[ps.length-1])[j]?=some x→w1.cell? ⟨b,aa+(ps.length-1)*4+j,none⟩=some x:=hc;have c0:=d 0 (.bool ps[ps.length-1].has) rfl;have c1:=d 1 ps[ps.length-1].vb rfl;have c2:=d 2 ps[ps.length-1].vr rfl;have c3:=d 3 ps[ps.length-1].vd rfl;rw[Nat.add_zero]at c0;clear hc d;have U:((ps.length:Int)-1).toNat=ps.length-1:=by omega
  generalize ocC (o ps[ps.length-1])=OC at*;generalize outV (o ps[ps.length-1]).dec=OV at*;generalize ps[ps.length-1]=p at*;generalize hm:ps.length-1=m at*;have Z:(ps.length:Int)-1=(m:Int):=by omega
  have A:ps.length=m+1:=by omega
  rw[Z]at D;rw[A]at h4 E⊢;rw[A]at*;clear hm U Z A;obtain⟨has,vb,N,vr,J,vd,dec⟩:=p;obtain⟨ba,bk,rfl⟩:∃a c,vb=H a N.length c:=I.1.shape;obtain⟨va,vk,rfl⟩:∃a c,vr=H a J.length c:=I.2.1.shape;obtain⟨da,dk,rfl⟩:∃a c,vd=H a dec.length c:=I.2.2.shape;dsimp only at c0 c1 c2 c3 T;obtain⟨q0,q1⟩:=Rb.cel2;obtain⟨f0,f1⟩:=Rb.frz2;clear q0 q1 f0 f1
  go_wp2_with fail
  refine(T w1 (hG.below hB) I).mono ?_;rintro e w3 ⟨rfl,O⟩;replace hB:=hB.trans (O.mono hB.size);replace Rb:=Rb.below O;obtain⟨q0,q1⟩:=Rb.cel2;obtain⟨f0,f1⟩:=Rb.frz2;clear O T c0 c1 c2 c3;by_cases hO:OV=3
  ·have e1:(OC==0)=false:=by rw[z,hO];rfl
   have E1:Hid (V=(m:Int)):=D.out hO;clear z D E
   go_wp2
   exact bodyPost_ret (v:=.agg #[Q S 0,Q S m]) (by simp[results,results46,go_sem,q0,q1]) rfl ⟨by rw[E1.out],(hB.setCell (p:=⟨w.heap.size,0,none⟩) (Va _) _).setCell (p:=⟨w.heap.size,1,none⟩) (Va _) _⟩
  ·have e1:(OC==0)=true:=by
    rw[z];have:(OV !=3)=true:=by simpa using hO
    rw[this];rfl
   have E1:Hid (V=(m:Int)+1):=by have:=E.out hO;exact this.trans (by omega)
   clear z D E
   go_wp2
   exact bodyPost_ret (v:=.agg #[Q S 0,Q S ((m:Int)+1)]) (by simp[results,results46,go_sem,q0,q1]) rfl ⟨by rw[E1.out],(hB.setCell (p:=⟨w.heap.size,0,none⟩) (Va _) _).setCell (p:=⟨w.heap.size,1,none⟩) (Va _) _⟩
 ·have E1:Hid (V=0):=HV.out.2 hC;have ab:(C !=0)=true:=by simpa using hC
  obtain⟨q0,q1⟩:=Rb.cel2;obtain⟨f0,f1⟩:=Rb.frz2;clear HV HO
  go_wp2
  exact bodyPost_ret (v:=.agg #[Q S C,Q S 0]) (by simp[results,results46,go_sem,q0,q1]) rfl ⟨by rw[E1.out],(hB.setCell (p:=⟨w.heap.size,0,none⟩) (Va _) _).setCell (p:=⟨w.heap.size,1,none⟩) (Va _) _⟩
theorem z3Y(v:Value)(ps:List InstQ)(w:World)(h:instK.At w v ps)(hl:(ps.length+nmL f ps)≤1048576)(h1:1≤ps.length)(h4:ps.length≤4):
  Calls t 72 #[v] w fun e w'=>e=.returned (Q S (decN (ps.map o)))∧Below w.heap.size w w':=by
 obtain⟨a,cap,rfl⟩:=h.shape;have c:ps.length-1<ps.length:=by omega
 obtain⟨V,hv⟩:∃V:Int,(decN (ps.map o):Int)=V:=⟨_,rfl⟩
 have d:Hid (outV ps[ps.length-1].dec=3→V=(ps.length:Int)-1):=fun h3=>by
  rw[←hv];unfold decN;rw[z7v ps c,if_pos (show outV (o ps[ps.length-1]).dec=3 from h3),Vc];omega
 have x:Hid (outV ps[ps.length-1].dec≠3→V=(ps.length:Int)):=fun h3=>by
  rw[←hv];unfold decN;rw[z7v ps c,if_neg (show¬outV (o ps[ps.length-1]).dec=3 from h3),Vc]
 rw[hv];have hn:f ps[ps.length-1]≤1048576:=by have:=z6O ps _ c;omega
 obtain⟨b,D,rfl,E,hP⟩:=z7u h (ps.length-1) c;have y:=z2n b (D+(ps.length-1)*4) ps[ps.length-1];have A:=y w hP hn;clear y hn hv h;generalize outV ps[ps.length-1].dec=OV at*;generalize ps[ps.length-1]=p at*;generalize hm:ps.length-1=m at*;have C:(ps.length:Int)-1=(m:Int):=by omega
 have z:ps.length=m+1:=by omega
 rw[C]at d;rw[z]at h4 x⊢;clear hm C z hl h1 c;go_enter func72,ntmps72
 go_wp2_with fail
 refine A.mono ?_;rintro e w3 ⟨rfl,hw⟩;replace hw:=hw.symm;subst hw;clear A hP;by_cases hO:OV=3
 ·have e1:(OV==3)=true:=by simpa using hO
  have E1:Hid (V=(m:Int)):=d.out hO;clear d x hO
  go_wp2
  go_ret;exact⟨by rw[E1.out];rfl,Below.refl _ _⟩
 ·have e1:(OV==3)=false:=by simpa using hO
  have E1:Hid (V=(m:Int)+1):=by have:=x.out hO;exact this.trans (by omega)
  clear d x hO
  go_wp2
  go_ret;exact⟨by rw[E1.out];rfl,Below.refl _ _⟩
theorem q09(b y cap:Nat)(zs:List Int)(w:World)(h:Row .i64 w (some ⟨b,y,none⟩) zs)(h0:0<zs.length)(hl:zs.length≤1048576):
  Calls t 190 #[H (some ⟨b,y,none⟩) zs.length cap] w fun e w'=>∃a c,e=.returned (H a zs.length c)∧
   w'.ownsRow w.heap.size 2 1 (H a zs.length c) zs.length (zs.map iv)∧Below w.heap.size w w':=by
 obtain⟨i0,hi,D,E,I⟩:=info_parts q2j;have hs:=z2U (Lies.below (z3y h) (w':=w.alloc (.cells #[] 2)) (by go_grown));have C:(zs.map iv).length=zs.length*1:=by simp
 have ho:=World.ownsRow_lit (e:=2) (size:=1) w #[] 0 (Va _) (by decide) rfl;have HS:Hid (∀j u,(zs.map iv)[j]?=some u→_):=hs;clear hs;go_enter func190,ntmps190
 go_wp2_with (at_builtin;refine wpList_append_own _ rfl _ _ 75 rfl w.heap.size 2 i0 (Q S 0) 1 8 Tryz.underlying75 hi D E I rfl (by decide) _ 0 [] rfl ho ⟨b,y,none⟩ zs.length cap (zs.map iv) rfl C HS.out ?c2 ?c3 ?c4 ?c5 ?_)
 all_goals try(case c2=>first|(intro u hu;obtain⟨z,_,rfl⟩:=List.mem_map.1 hu;rfl)|(intro u hu;rfl))
 all_goals try(case c3=>unfold maxLen;omega)
 all_goals try(case c4=>omega)
 all_goals try(case c5=>simp)
 intro v' w2 x d _;obtain⟨a2,c2,rfl⟩:=z0f x;have A:Below w.heap.size w w2:=((Below.refl _ _).alloc (Va _) _).grown d (by simp) (fun k hk=>by simp[Value.ownBlock]at hk;omega);try simp only[Nat.zero_add]at x
 clear d HS ho
 go_wp2
 go_ret;exact⟨a2,c2,rfl,by simpa using x,A⟩
theorem z4q(v:Value)(zs:List Int)(w:World)(h:intK.At w v zs)(h0:0<zs.length)(hl:zs.length≤1048576):
  Calls t 190 #[v] w fun e w'=>∃a c,e=.returned (H a zs.length c)∧intK.Own w' (H a zs.length c) zs∧(∀k∈intK.fp (H a zs.length c) zs,w.heap.size≤k)∧Below w.heap.size w w':=by
 obtain⟨a,cap,rfl⟩:=h.shape;have hR:=(z0P h).2;obtain⟨b,off,rfl,_⟩:=hR 0 h0;refine(q09 b off cap zs w hR h0 hl).mono ?_;rintro e w2 ⟨a2,c2,rfl,ho,hb⟩;obtain⟨O,G⟩:=z5g rfl ho;exact⟨a2,c2,rfl,O,G,hb⟩
theorem z2o(v:Value)(ps:List TxnQ)(w:World)(h:txnK.At w v ps)(av:∀p∈ps,0<p.acts.length)(hl:ps.length+nmL TxnQ.n ps≤1048576):
  Calls t 116 #[v] w fun e w'=>∃v' qs,e=.returned v'∧qs.map TxnQ.e=ps.map TxnQ.e∧txnK.Own w' v' qs∧(txnK.fp v' qs).Nodup∧(∀k∈txnK.fp v' qs,w.heap.size≤k)∧Below w.heap.size w w':=by
 obtain⟨a,cap,rfl⟩:=h.shape;obtain⟨i0,hi,az,aA,aB⟩:=info_parts z1y;have ho:=World.ownsRow_lit (e:=158) (size:=4) w #[] 0 (Va _) (by decide) rfl;have ag:txnK.Own (w.alloc (.cells #[] 158)) (H (some ⟨w.heap.size,0,none⟩) 0 0) ([]:List TxnQ):=⟨(z0y ho).1,fun p hp=>by simp at hp⟩
 have ai:Below w.heap.size w (w.alloc (.cells #[] 158)):=by go_grown
 have W:Hid ((txnK.fp (H (some ⟨w.heap.size,0,none⟩) 0 0) ([]:List TxnQ)).Nodup∧∀k∈txnK.fp (H (some ⟨w.heap.size,0,none⟩) 0 0) ([]:List TxnQ),w.heap.size≤k):=by
  refine⟨?_,?_⟩
  ·simp[Kind.fp,blk,Value.ownBlock]
  ·simp[Kind.fp,blk,Value.ownBlock]
 clear ho;go_enter func116,ntmps116
 go_wp2
 go_loopw[3,4] (fun v j wr=>∃ (k:Nat) (qs:List TxnQ),k≤ps.length∧j=Q S k∧Hid (qs.map TxnQ.e=(ps.take k).map TxnQ.e)∧txnK.Own wr v qs∧Hid ((txnK.fp v qs).Nodup∧∀k∈txnK.fp v qs,w.heap.size≤k)∧Below w.heap.size w wr) (fun _ j _=>ps.length-(intOf j).toNat)
 case atStart=>exact⟨0,[],Vb _,rfl,(rfl:_=_),ag,W,ai⟩
 case round=>
  clear W ag ai;obtain⟨k,qs,hk,rfl,HE,hO,HN,hb⟩:=hrel;obtain⟨sa,sc,rfl⟩:=hO.shape;have Y:Hid (qs.length=k):=by
   have:=congrArg List.length HE.out;rw[Vc,Vc,List.length_take]at this;show qs.length=k;omega
  by_cases L:k<ps.length
  ·obtain⟨b,aC,rfl,aE,hc,d⟩:=(h.below hb).cell (by decide) k L;have A:∀j x,(txnK.cells ps[k])[j]?=some x→wr.cell? ⟨b,aC+k*4+j,none⟩=some x:=hc;have c0:=A 0 (Q S ps[k].i) rfl;have c1:=A 1 (Q S ps[k].s) rfl;have c2:=A 2 (Q S ps[k].q) rfl;have c3:=A 3 (ps[k].va) rfl;have U:=z01 TxnQ.n ps k L;have D:=av _ (Vd L);have X:Hid (∀p':TxnQ,p'.e=TxnQ.e ps[k]→(qs++[p']).map TxnQ.e=(ps.take (k+1)).map TxnQ.e):=fun p' aw=>by
    rw[List.take_succ_eq_append_getElem L,List.map_append,List.map_append,HE.out,List.map_singleton,List.map_singleton,aw]
   clear hc A;generalize ps[k]=p at*;obtain⟨i,s,q,va,c⟩:=p;replace d:actK.At wr va c:=d;replace U:c.length≤nmL TxnQ.n ps:=U;obtain⟨aa,ac,rfl⟩:=d.shape;dsimp only at c0 c1 c2 c3 D;obtain⟨ab,ao,aq⟩:∃ab ao,aa=some ⟨ab,ao,none⟩:=by
    rcases(z0Z d).2 with h0|⟨ab,ao,e,_⟩
    ·have:=z0s c;rw[h0]at this;simp at this;omega
    ·exact⟨ab,ao,e⟩
   subst aq;have ae:=z6I i s q ab ao ac c _ (z0Z d).2 D (by omega);rw[Nat.add_zero]at c0;clear HE
   go_wp2_with fail
   clear c0 c1 c2 c3;have aD:w.heap.size≤wr.heap.size:=hb.size;refine ae.mono ?_;rintro e w2 ⟨a2,c2,rfl,ak,I⟩;have V:=hO.lt;replace hO:=hO.below I;replace hb:=hb.trans (I.mono hb.size);obtain⟨o2,af⟩:=z0y ak;have hP:txnK.own w2 ⟨i,s,q,H a2 c.length c2,c⟩:=⟨o2,fun _ _=>trivial⟩
   have y:∀x∈txnK.foot ⟨i,s,q,H a2 c.length c2,c⟩,wr.heap.size≤x:=fun x hx=>af x (by rw[←z1a (H a2 c.length c2) c];exact hx)
   have ad:(txnK.foot ⟨i,s,q,H a2 c.length c2,c⟩).Nodup:=by
    show(actK.fp _ _).Nodup;rw[z1a];exact z0t _
   have z:Below w2.heap.size w2 (w2.alloc (.cells #[Q S i,Q S s,Q S q,H a2 c.length c2] 158)):=by go_grown
   have O:=hO.below z;have Z:=txnK.own_out (F:=[]) hP (Out.of_below z) (fun _ _=>by simp);have J:=hb.trans (z.mono hb.size);clear ae ak hO hP af;have E:=O.1
   go_wp2_with (at_builtin;refine wpList_append_own_at _ rfl _ _ 52 rfl 0 158 i0 (.agg #[Q S 0,Q S 0,Q S 0,H none 0 0]) 4 48 Tryz.underlying52 hi az aA aB rfl (by decide) _ qs.length (txnK.row qs) rfl E ⟨w2.heap.size,0,none⟩ 1 1 [Q S i,Q S s,Q S q,H a2 c.length c2] rfl rfl ?c1 ?c2 ?c3 ?c4 ?c5 ?_)
   all_goals try(case c1=>intro j u hj;match j,hj with|0,hj=>simp at hj;subst hj;simp[Addr.add]|1,hj=>simp at hj;subst hj;simp[Addr.add]|2,hj=>simp at hj;subst hj;simp[Addr.add]|3,hj=>simp at hj;subst hj;simp[Addr.add])
   all_goals try(case c2=>intro u hu;simp at hu;rcases hu with rfl|rfl|rfl|rfl<;>rfl)
   all_goals try(case c3=>have:=Y.out;unfold maxLen;omega)
   all_goals try(case c4=>have:=Y.out;omega)
   all_goals try(case c5=>first|omega|simp)
   intro v' w5 N C aj T;clear aj E;rw[show w2.heap.size+1=(w2.alloc (.cells #[Q S i,Q S s,Q S q,H a2 c.length c2] 158)).heap.size from(World.size_alloc _ _).symm]at T;generalize ax:w2.alloc (.cells #[Q S i,Q S s,Q S q,H a2 c.length c2] 158)=WA at*;clear ax;have aF:wr.heap.size≤WA.heap.size:=by have:=I.size;have:=z.size;omega
   obtain⟨ap,ah,M,al⟩:=O.snoc HN.out.1 HN.out.2 Z ad (fun x hx ay=>by have:=V x ay;have:=y x hx;omega) (fun x hx=>by have:=y x hx;omega) J.size N C T;have ar:Below w.heap.size w w5:=Out.keep J al J.size (fun x hx=>HN.out.2 x (by simp only[Kind.fp,List.mem_append];exact Or.inl hx));have am:Hid ((qs++[(⟨i,s,q,H a2 c.length c2,c⟩:TxnQ)]).map TxnQ.e=(ps.take (k+1)).map TxnQ.e):=X.out _ rfl;have an:Hid ((txnK.fp v' (qs++[(⟨i,s,q,H a2 c.length c2,c⟩:TxnQ)])).Nodup∧∀k∈txnK.fp v' (qs++[(⟨i,s,q,H a2 c.length c2,c⟩:TxnQ)]),w.heap.size≤k):=⟨ah,M⟩
   clear X HN V y ad Z O J N C T al ah M d hb z I U D
   go_wp2
   go_roundw
   case rel=>exact⟨k+1,_,by omega,by go_num,am,ap,an,ar⟩
   case measure=>simp[intOf];omega
  ·have au:k=ps.length:=by omega
   subst au;have hE:=HE.out;rw[List.take_length]at hE;clear HE
   go_wp2
   go_ret;exact⟨_,qs,rfl,hE,hO,HN.out.1,HN.out.2,hb⟩
def z1n(c:Int)(p:TxnQ):TxnQ:=⟨c,c+1,c+1+1,p.va,z3l (c+1+1+1) p.acts⟩
def nmTxn(p:TxnQ):Nat:=1+1+1+p.acts.length*3
theorem z6P(c:Int)(p:TxnQ):txnK.foot (z1n c p)=txnK.foot p:=by
 simp only[z1n,show∀p:TxnQ,txnK.foot p=actK.fp p.va p.acts from fun _=>rfl,z78]
theorem z4r(v:Value)(ps:List TxnQ)(c:Int)(w:World)(h:txnK.Own w v ps)(ak:(txnK.fp v ps).Nodup)(hl:(ps.length+nmL TxnQ.n ps)≤1048576)(h0:0≤c)(h1:c+(nmL nmTxn ps:Int)≤1099511627776):
  Calls t 58 #[v,Q S c] w fun e w'=>e=.returned (Q S (c+(nmL nmTxn ps:Int)))∧txnK.Own w' v (mkL z1n nmTxn c ps)∧Out (txnK.fp v ps) w w':=by
 obtain⟨a,cap,rfl⟩:=h.shape;have T:∀k,k≤ps.length→txnK.fp (H a ps.length cap) (half z1n nmTxn c ps k)=txnK.fp (H a ps.length cap) ps:=fun k hk=>z5r z6P _ c ps k
 have HF:Hid (∀k,k≤ps.length→txnK.fp (H a ps.length cap) (half z1n nmTxn c ps k)=txnK.fp (H a ps.length cap) ps):=T;have HA:Hid (txnK.Own w (H a ps.length cap) (half z1n nmTxn c ps 0)):=by rw[z2D];exact h
 clear T h;go_enter func58,ntmps58
 go_wp2
 go_loopw[1,5] (fun j i wr=>∃k:Nat,k≤ps.length∧j=Q S (c+(nmL nmTxn (ps.take k):Int))∧i=Q S k∧Hid (txnK.Own wr (H a ps.length cap) (half z1n nmTxn c ps k))∧Hid (Out (txnK.fp (H a ps.length cap) ps) w wr)) (fun _ i _=>ps.length-(intOf i).toNat)
 case atStart=>exact⟨0,Vb _,by simp[nmL],rfl,HA,Out.refl _ _⟩
 case round=>
  clear HA;obtain⟨k,hk,rfl,rfl,HO,HU⟩:=hrel;by_cases L:k<ps.length
  ·have au:(half z1n nmTxn c ps k).length=ps.length:=z1w _ _ _ _ _ hk;have hO:=HO.out;obtain⟨g,rfl⟩:=hO.blkOf (by omega);have U:(txnK.fp (H (some ⟨g,0,none⟩) ps.length cap) (half z1n nmTxn c ps k)).Nodup:=by rw[HF.out k hk];exact ak
   have W:Hid (∀x∈txnK.foot ps[k],x∈txnK.fp (H (some ⟨g,0,none⟩) ps.length cap) ps):=fun x hx=>by
    simp only[Kind.fp,List.mem_append,List.mem_flatMap];exact Or.inr ⟨_,Vd L,hx⟩
   have N:Hid (∀x∈[g],x∈txnK.fp (H (some ⟨g,0,none⟩) ps.length cap) ps):=fun x hx=>by
    simp only[List.mem_singleton]at hx;subst hx;simp[Kind.fp,blk,Value.ownBlock]
   have ab:k<(half z1n nmTxn c ps k).length:=by omega
   have J:=z3M z1n nmTxn c ps k L;have z:txnK.Own wr (H (some ⟨g,0,none⟩) ps.length cap) ((half z1n nmTxn c ps k).set k ps[k]):=by
    have e:(half z1n nmTxn c ps k).set k ps[k]=half z1n nmTxn c ps k:=by
     rw[←J,List.set_getElem_self]
    rw[e];exact hO
   have D:(txnK.fp (H (some ⟨g,0,none⟩) ps.length cap) ((half z1n nmTxn c ps k).set k ps[k])).Nodup:=by
    have e:(half z1n nmTxn c ps k).set k ps[k]=half z1n nmTxn c ps k:=by
     rw[←J,List.set_getElem_self]
    rw[e];exact U
   clear J hO U;have V:=z3N z1n nmTxn c ps k L;have am:=z0S nmTxn ps k L;have ai:=z2w nmTxn ps (k+1);have ao:=z01 TxnQ.n ps k L;have Z:Hid ((nmL nmTxn (ps.take (k+1)):Int)=(nmL nmTxn (ps.take k):Int)+(nmTxn ps[k]:Int)):=show _=_ by omega
   have an:(nmL nmTxn (ps.take k):Int)+(nmTxn ps[k]:Int)≤nmL nmTxn ps:=by omega
   have O:Hid ((half z1n nmTxn c ps k).set k (z1n (c+(nmL nmTxn (ps.take k):Int)) ps[k])=half z1n nmTxn c ps (k+1)):=V;clear V am ai HO;generalize half z1n nmTxn c ps k=hs at*;generalize al:ps[k]=p at*;clear al;obtain⟨ar,Y,M,A,d⟩:=p;have C:k<hs.length:=ab;dsimp only[nmTxn,TxnQ.n]at Z an ao;generalize hy:(nmL nmTxn (ps.take k):Int)=y at*;have av:0≤y:=by omega
   clear hy;obtain⟨c0,f0⟩:=z.cell' C 0 (Q S ar) rfl;obtain⟨c1,f1⟩:=z.cell' C 1 (Q S Y) rfl;obtain⟨c2,f2⟩:=z.cell' C 2 (Q S M) rfl;obtain⟨c3,f3⟩:=z.cell' C 3 (A) rfl;have c0:wr.cell? ⟨g,k*4,none⟩=_:=c0;have f0:wr.frozen? ⟨g,k*4,none⟩=_:=f0;have c1:wr.cell? ⟨g,k*4+1,none⟩=_:=c1;have f1:wr.frozen? ⟨g,k*4+1,none⟩=_:=f1;have c2:wr.cell? ⟨g,k*4+2,none⟩=_:=c2;have f2:wr.frozen? ⟨g,k*4+2,none⟩=_:=f2;have c3:wr.cell? ⟨g,k*4+3,none⟩=_:=c3;have f3:wr.frozen? ⟨g,k*4+3,none⟩=_:=f3;obtain⟨E,I⟩:=z.store' D C (⟨c+y,Y,M,A,d⟩:TxnQ) 0 (Q S (c+y)) (by decide) rfl rfl (fun _ h=>h);have z:txnK.Own (wr.setCell ⟨g,k*4,none⟩ (Q S (c+y))) (H (some ⟨g,0,none⟩) ps.length cap) (hs.set k (⟨c+y,Y,M,A,d⟩:TxnQ)):=E;have D:=I;obtain⟨E,I⟩:=z.store' D C (⟨c+y,c+y+1,M,A,d⟩:TxnQ) 1 (Q S (c+y+1)) (by decide) rfl rfl (fun _ h=>h);have z:txnK.Own ((wr.setCell ⟨g,k*4,none⟩ (Q S (c+y))).setCell ⟨g,k*4+1,none⟩ (Q S (c+y+1))) (H (some ⟨g,0,none⟩) ps.length cap) (hs.set k (⟨c+y,c+y+1,M,A,d⟩:TxnQ)):=E;have D:=I;obtain⟨E,I⟩:=z.store' D C (⟨c+y,c+y+1,c+y+1+1,A,d⟩:TxnQ) 2 (Q S (c+y+1+1)) (by decide) rfl rfl (fun _ h=>h);have z:txnK.Own (((wr.setCell ⟨g,k*4,none⟩ (Q S (c+y))).setCell ⟨g,k*4+1,none⟩ (Q S (c+y+1))).setCell ⟨g,k*4+2,none⟩ (Q S (c+y+1+1))) (H (some ⟨g,0,none⟩) ps.length cap) (hs.set k (⟨c+y,c+y+1,c+y+1+1,A,d⟩:TxnQ)):=E;have D:=I;have HU:Hid (Out (txnK.fp (H (some ⟨g,0,none⟩) ps.length cap) ps) w (((wr.setCell ⟨g,k*4,none⟩ (Q S (c+y))).setCell ⟨g,k*4+1,none⟩ (Q S (c+y+1))).setCell ⟨g,k*4+2,none⟩ (Q S (c+y+1+1)))):=(((HU.out.trans ((Out.setCell _ g (k*4) (Q S (c+y))).mono N.out)).trans ((Out.setCell _ g (k*4+1) (Q S (c+y+1))).mono N.out)).trans ((Out.setCell _ g (k*4+2) (Q S (c+y+1+1))).mono N.out))
   have aa:=z.elem' C;have X:actK.Own (((wr.setCell ⟨g,k*4,none⟩ (Q S (c+y))).setCell ⟨g,k*4+1,none⟩ (Q S (c+y+1))).setCell ⟨g,k*4+2,none⟩ (Q S (c+y+1+1))) A d:=aa;have ad:=q0U A d (c+y+1+1+1) _ X (by omega) (by omega) (by omega);obtain⟨ap,aq,af⟩:=X.shape;subst af;clear aa X
   go_wp2_with fail
   refine ad.mono ?_;rintro e ag ⟨rfl,aj,ae⟩;clear ad;obtain⟨E,I⟩:=z.turn' D C (⟨c+y,c+y+1,c+y+1+1,H ap d.length aq,z3l (c+y+1+1+1) d⟩:TxnQ) ae (fun x hx=>hx) rfl (by exact z78 _ _ _) (aj);have HU:Hid (Out (txnK.fp (H (some ⟨g,0,none⟩) ps.length cap) ps) w ag):=HU.out.trans (ae.mono (fun x hx=>W.out x (show x∈txnK.foot _ from(fun x hx=>hx) x hx)));have z:=E;have D:=I;have R:Hid (txnK.Own ag (H (some ⟨g,0,none⟩) ps.length cap) (half z1n nmTxn c ps (k+1))):=by rw[←O.out];exact z
   clear z D O W N
   go_wp2
   go_roundw
   case rel=>exact⟨k+1,by omega,by rw[Z.out];congr 1;omega,by go_num,R.out,HU.out⟩
   case measure=>simp[intOf];omega
  ·have ah:k=ps.length:=by omega
   subst ah;have hO:=HO.out;rw[z3L]at hO;rw[List.take_length];clear HF HO
   go_wp2
   go_ret;exact⟨rfl,hO,HU.out⟩
theorem z4s(v:Value)(ps:List TxnQ)(c:Int)(w:World)(h:txnK.At w v (mkL z1n nmTxn c ps))(hl:(ps.length+nmL TxnQ.n ps)≤1048576)(h0:0≤c)(h1:c+(nmL nmTxn ps:Int)≤1099511627776):
  Calls t 102 #[v,Q S c] w fun e w'=>e=.returned (Q S (c+(nmL nmTxn ps:Int)))∧Below w.heap.size w w':=by
 obtain⟨a,cap,rfl⟩:=h.shape;have D:=z0U z1n nmTxn c ps;rw[D]at h⊢;have HM:Hid ((mkL z1n nmTxn c ps).length=ps.length):=D;clear D;go_enter func102,ntmps102
 go_wp2
 go_loopw[1,5] (fun j i wr=>∃k:Nat,k≤ps.length∧j=Q S (c+(nmL nmTxn (ps.take k):Int))∧i=Q S k∧Below w.heap.size w wr) (fun _ i _=>ps.length-(intOf i).toNat)
 case atStart=>exact⟨0,Vb _,by simp[nmL],rfl,Below.refl _ _⟩
 case round=>
  obtain⟨k,hk,rfl,rfl,hb⟩:=hrel;by_cases C:k<ps.length
  ·have L:k<(mkL z1n nmTxn c ps).length:=by have:=HM.out;omega
   obtain⟨b,Y,rfl,ad,hc,M⟩:=(h.below hb).cell (by decide) k L;rw[z4h z1n nmTxn c ps k C]at hc M;have V:=z0S nmTxn ps k C;have T:=z2w nmTxn ps (k+1);have X:=z01 TxnQ.n ps k C;have E:Hid ((nmL nmTxn (ps.take (k+1)):Int)=(nmL nmTxn (ps.take k):Int)+(nmTxn ps[k]:Int)):=show _=_ by omega
   have W:(nmL nmTxn (ps.take k):Int)+(nmTxn ps[k]:Int)≤nmL nmTxn ps:=by omega
   clear V T h;generalize U:ps[k]=p at*;clear U;obtain⟨Z,ab,aa,z,d⟩:=p;dsimp only[nmTxn,TxnQ.n]at E W X;generalize hy:(nmL nmTxn (ps.take k):Int)=y at*;have ae:0≤y:=by omega
   clear hy;have A:∀j x,(txnK.cells (z1n (c+y) (⟨Z,ab,aa,z,d⟩:TxnQ)))[j]?=some x→wr.cell? ⟨b,Y+k*4+j,none⟩=some x:=hc;clear hc;have c0:=A 0 (Q S (c+y)) rfl;have c1:=A 1 (Q S (c+y+1)) rfl;have c2:=A 2 (Q S (c+y+1+1)) rfl;have c3:=A 3 (z) rfl;have r3:actK.At wr z (z3l (c+y+1+1+1) d):=M;have J:=fun w h=>q0V z d (c+y+1+1+1) w h (by omega) (by omega) (by omega)
   obtain⟨ag,ah,N⟩:=r3.shape;subst N;rw[Nat.add_zero]at c0;clear A;have af:¬(c+y+1+1+1+((d.length*3:Nat):Int)<0):=by omega
   go_wp2_with fail
   refine(J wr r3).mono ?_;rintro e w3 ⟨rfl,I⟩;replace hb:=hb.trans (I.mono hb.size);clear I J c0 c1 c2 c3
   go_wp2
   go_roundw
   case rel=>exact⟨k+1,by omega,by rw[E.out];congr 1;omega,by go_num,hb⟩
   case measure=>simp[intOf];omega
  ·have O:k=ps.length:=by omega
   subst O;rw[List.take_length]
   go_wp2
   go_ret;exact⟨rfl,hb⟩
theorem z06{A B:List Nat}(h:(A++B).Nodup):∀k∈B,k∉A:=fun k hk hk2=>(List.nodup_append.1 h).2.2 k hk2 k hk rfl
theorem z1s{A B:List Nat}(h:(A++B).Nodup):∀k∈A,k∉B:=fun k hk hk2=>(List.nodup_append.1 h).2.2 k hk k hk2 rfl
theorem z0k{P:Type}{K:Kind P}{v:Value}{hs:List P}{k:Nat}{p:P}(h:(K.fp v (hs.set k p)).Nodup)(hk:k<hs.length):(K.foot p).Nodup:=by
 have h2:=(List.nodup_append.1 h).2.1;rw[z76 hs k hk p]at h2;simp only[List.flatMap_append,List.flatMap_cons]at h2;exact(List.nodup_append.1 (List.nodup_append.1 h2).2.1).1
def z0w(c:Int)(p:RoundQ):RoundQ:=⟨p.vr,z1F (c) p.rep,p.vp,z1F (c+((p.rep.length:Nat):Int)) p.pro⟩
def nmRound(p:RoundQ):Nat:=p.rep.length+p.pro.length
theorem z4Q(c:Int)(p:RoundQ):roundK.foot (z0w c p)=roundK.foot p:=by
 simp only[z0w,show∀p:RoundQ,roundK.foot p=intK.fp p.vr p.rep++intK.fp p.vp p.pro from fun _=>rfl,z1G,z1G]
theorem z8z(v:Value)(ps:List RoundQ)(c:Int)(w:World)(h:roundK.Own w v ps)(au:(roundK.fp v ps).Nodup)(hl:(ps.length+nmL RoundQ.n ps)≤1048576)(h0:0≤c)(h1:c+(nmL nmRound ps:Int)≤1099511627776):
  Calls t 59 #[v,Q S c] w fun e w'=>e=.returned (Q S (c+(nmL nmRound ps:Int)))∧roundK.Own w' v (mkL z0w nmRound c ps)∧Out (roundK.fp v ps) w w':=by
 obtain⟨a,cap,rfl⟩:=h.shape;have U:∀k,k≤ps.length→roundK.fp (H a ps.length cap) (half z0w nmRound c ps k)=roundK.fp (H a ps.length cap) ps:=fun k hk=>z5r z4Q _ c ps k
 have HF:Hid (∀k,k≤ps.length→roundK.fp (H a ps.length cap) (half z0w nmRound c ps k)=roundK.fp (H a ps.length cap) ps):=U;have HA:Hid (roundK.Own w (H a ps.length cap) (half z0w nmRound c ps 0)):=by rw[z2D];exact h
 clear U h;go_enter func59,ntmps59
 go_wp2
 go_loopw[1,5] (fun j i wr=>∃k:Nat,k≤ps.length∧j=Q S (c+(nmL nmRound (ps.take k):Int))∧i=Q S k∧Hid (roundK.Own wr (H a ps.length cap) (half z0w nmRound c ps k))∧Hid (Out (roundK.fp (H a ps.length cap) ps) w wr)) (fun _ i _=>ps.length-(intOf i).toNat)
 case atStart=>exact⟨0,Vb _,by simp[nmL],rfl,HA,Out.refl _ _⟩
 case round=>
  clear HA;obtain⟨k,hk,rfl,rfl,HO,HU⟩:=hrel;by_cases J:k<ps.length
  ·have aB:(half z0w nmRound c ps k).length=ps.length:=z1w _ _ _ _ _ hk;have hO:=HO.out;obtain⟨g,rfl⟩:=hO.blkOf (by omega);have V:(roundK.fp (H (some ⟨g,0,none⟩) ps.length cap) (half z0w nmRound c ps k)).Nodup:=by rw[HF.out k hk];exact au
   have M:Hid (∀x∈roundK.foot ps[k],x∈roundK.fp (H (some ⟨g,0,none⟩) ps.length cap) ps):=fun x hx=>by
    simp only[Kind.fp,List.mem_append,List.mem_flatMap];exact Or.inr ⟨_,Vd J,hx⟩
   have an:Hid (∀x∈[g],x∈roundK.fp (H (some ⟨g,0,none⟩) ps.length cap) ps):=fun x hx=>by
    simp only[List.mem_singleton]at hx;subst hx;simp[Kind.fp,blk,Value.ownBlock]
   have ah:k<(half z0w nmRound c ps k).length:=by omega
   have I:=z3M z0w nmRound c ps k J;have z:roundK.Own wr (H (some ⟨g,0,none⟩) ps.length cap) ((half z0w nmRound c ps k).set k ps[k]):=by
    have e:(half z0w nmRound c ps k).set k ps[k]=half z0w nmRound c ps k:=by
     rw[←I,List.set_getElem_self]
    rw[e];exact hO
   have D:(roundK.fp (H (some ⟨g,0,none⟩) ps.length cap) ((half z0w nmRound c ps k).set k ps[k])).Nodup:=by
    have e:(half z0w nmRound c ps k).set k ps[k]=half z0w nmRound c ps k:=by
     rw[←I,List.set_getElem_self]
    rw[e];exact V
   clear I hO V;have W:=z3N z0w nmRound c ps k J;have aw:=z0S nmRound ps k J;have ap:=z2w nmRound ps (k+1);have ay:=z01 RoundQ.n ps k J;have ae:Hid ((nmL nmRound (ps.take (k+1)):Int)=(nmL nmRound (ps.take k):Int)+(nmRound ps[k]:Int)):=show _=_ by omega
   have ax:(nmL nmRound (ps.take k):Int)+(nmRound ps[k]:Int)≤nmL nmRound ps:=by omega
   have T:Hid ((half z0w nmRound c ps k).set k (z0w (c+(nmL nmRound (ps.take k):Int)) ps[k])=half z0w nmRound c ps (k+1)):=W;clear W aw ap HO;generalize half z0w nmRound c ps k=hs at*;generalize av:ps[k]=p at*;clear av;obtain⟨N,d,E,A⟩:=p;have C:k<hs.length:=ah;dsimp only[nmRound,RoundQ.n]at ae ax ay;generalize hy:(nmL nmRound (ps.take k):Int)=y at*;have aC:0≤y:=by omega
   clear hy;obtain⟨c0,f0⟩:=z.cell' C 0 (N) rfl;have c0:wr.cell? ⟨g,k*2,none⟩=_:=c0;have f0:wr.frozen? ⟨g,k*2,none⟩=_:=f0;have af:=z.elem' C;have Y:intK.Own wr N d:=af.1;have L:=z4i N d (c+y) _ Y (by omega) (by omega) (by omega);obtain⟨ak,al,ai⟩:=Y.shape;subst ai;clear af Y
   go_wp2_with fail
   refine L.mono ?_;rintro e O ⟨rfl,aq,ab⟩;clear L;obtain⟨X,aa⟩:=z.turn' D C (⟨H ak d.length al,z1F (c+y) d,E,A⟩:RoundQ) ab (fun x hx=>List.mem_append_left _ hx) rfl (by simp only[show∀p:RoundQ,roundK.foot p=intK.fp p.vr p.rep++intK.fp p.vp p.pro from fun _=>rfl,z1G]) (⟨aq,(z.elem' C).2.out ab (z06 (z0k D C))⟩);have HU:Hid (Out (roundK.fp (H (some ⟨g,0,none⟩) ps.length cap) ps) w O):=HU.out.trans (ab.mono (fun x hx=>M.out x (show x∈roundK.foot _ from(fun x hx=>List.mem_append_left _ hx) x hx)));have z:=X;have D:=aa;obtain⟨c1,f1⟩:=z.cell' C 1 (E) rfl;have c1:O.cell? ⟨g,k*2+1,none⟩=_:=c1;have f1:O.frozen? ⟨g,k*2+1,none⟩=_:=f1;have ag:=z.elem' C;have Z:intK.Own O E A:=ag.2;have L:=z4i E A (c+y+((d.length:Nat):Int)) _ Z (by omega) (by omega) (by omega);obtain⟨az,aA,aj⟩:=Z.shape;subst aj;clear ag Z
   go_wp2_with fail
   refine L.mono ?_;rintro e am ⟨rfl,ar,ad⟩;clear L;obtain⟨X,aa⟩:=z.turn' D C (⟨H ak d.length al,z1F (c+y) d,H az A.length aA,z1F (c+y+((d.length:Nat):Int)) A⟩:RoundQ) ad (fun x hx=>List.mem_append_right _ (hx)) rfl (by simp only[show∀p:RoundQ,roundK.foot p=intK.fp p.vr p.rep++intK.fp p.vp p.pro from fun _=>rfl,z1G]) (⟨(z.elem' C).1.out ad (z1s (z0k D C)),ar⟩);have HU:Hid (Out (roundK.fp (H (some ⟨g,0,none⟩) ps.length cap) ps) w am):=HU.out.trans (ad.mono (fun x hx=>M.out x (show x∈roundK.foot _ from(fun x hx=>List.mem_append_right _ (hx)) x hx)));have z:=X;have D:=aa;have R:Hid (roundK.Own am (H (some ⟨g,0,none⟩) ps.length cap) (half z0w nmRound c ps (k+1))):=by rw[←T.out];exact z
   clear z D T M an
   go_wp2
   go_roundw
   case rel=>exact⟨k+1,by omega,by rw[ae.out];congr 1;omega,by go_num,R.out,HU.out⟩
   case measure=>simp[intOf];omega
  ·have ao:k=ps.length:=by omega
   subst ao;have hO:=HO.out;rw[z3L]at hO;rw[List.take_length];clear HF HO
   go_wp2
   go_ret;exact⟨rfl,hO,HU.out⟩
theorem z8A(v:Value)(ps:List RoundQ)(c:Int)(w:World)(h:roundK.At w v (mkL z0w nmRound c ps))(hl:(ps.length+nmL RoundQ.n ps)≤1048576)(h0:0≤c)(h1:c+(nmL nmRound ps:Int)≤1099511627776):
  Calls t 103 #[v,Q S c] w fun e w'=>e=.returned (Q S (c+(nmL nmRound ps:Int)))∧Below w.heap.size w w':=by
 obtain⟨a,cap,rfl⟩:=h.shape;have J:=z0U z0w nmRound c ps;rw[J]at h⊢;have HM:Hid ((mkL z0w nmRound c ps).length=ps.length):=J;clear J;go_enter func103,ntmps103
 go_wp2
 go_loopw[1,5] (fun j i wr=>∃k:Nat,k≤ps.length∧j=Q S (c+(nmL nmRound (ps.take k):Int))∧i=Q S k∧Below w.heap.size w wr) (fun _ i _=>ps.length-(intOf i).toNat)
 case atStart=>exact⟨0,Vb _,by simp[nmL],rfl,Below.refl _ _⟩
 case round=>
  obtain⟨k,hk,rfl,rfl,hb⟩:=hrel;by_cases I:k<ps.length
  ·have T:k<(mkL z0w nmRound c ps).length:=by have:=HM.out;omega
   obtain⟨b,ae,rfl,af,hc,U⟩:=(h.below hb).cell (by decide) k T;rw[z4h z0w nmRound c ps k I]at hc U;have aa:=z0S nmRound ps k I;have Y:=z2w nmRound ps (k+1);have ad:=z01 RoundQ.n ps k I;have L:Hid ((nmL nmRound (ps.take (k+1)):Int)=(nmL nmRound (ps.take k):Int)+(nmRound ps[k]:Int)):=show _=_ by omega
   have ab:(nmL nmRound (ps.take k):Int)+(nmRound ps[k]:Int)≤nmL nmRound ps:=by omega
   clear aa Y h;generalize Z:ps[k]=p at*;clear Z;obtain⟨C,d,A,z⟩:=p;dsimp only[nmRound,RoundQ.n]at L ab ad;generalize hy:(nmL nmRound (ps.take k):Int)=y at*;have ag:0≤y:=by omega
   clear hy;have E:∀j x,(roundK.cells (z0w (c+y) (⟨C,d,A,z⟩:RoundQ)))[j]?=some x→wr.cell? ⟨b,ae+k*2+j,none⟩=some x:=hc;clear hc;have c0:=E 0 (C) rfl;have c1:=E 1 (A) rfl;obtain⟨r0,r1⟩:intK.At wr C (z1F (c+y) d)∧intK.At wr A (z1F (c+y+((d.length:Nat):Int)) z):=U;have N:=fun w h=>z4j C d (c+y) w h (by omega) (by omega) (by omega)
   have O:=fun w h=>z4j A z (c+y+((d.length:Nat):Int)) w h (by omega) (by omega) (by omega)
   obtain⟨aj,al,V⟩:=r0.shape;subst V;obtain⟨ak,am,W⟩:=r1.shape;subst W;rw[Nat.add_zero]at c0;clear E;have ah:¬(c+y+((d.length:Nat):Int)<0):=by omega
   go_wp2_with fail
   refine(N wr r0).mono ?_;rintro e w0 ⟨rfl,D⟩;replace hb:=hb.trans (D.mono hb.size);replace c1:=(D.cell (p:=⟨b,_,none⟩) (World.block_lt_of_cell? _ _ c1)).trans c1;replace r1:=r1.below D;clear D N c0;have ai:¬(c+y+((d.length:Nat):Int)+((z.length:Nat):Int)<0):=by omega
   go_wp2_with fail
   refine(O w0 r1).mono ?_;rintro e w1 ⟨rfl,M⟩;replace hb:=hb.trans (M.mono hb.size);clear M O c1
   go_wp2
   go_roundw
   case rel=>exact⟨k+1,by omega,by rw[L.out];congr 1;omega,by go_num,hb⟩
   case measure=>simp[intOf];omega
  ·have X:k=ps.length:=by omega
   subst X;rw[List.take_length]
   go_wp2
   go_ret;exact⟨rfl,hb⟩
theorem q32(ps:List TxnQ):nmL nmTxn ps≤3*(ps.length+nmL TxnQ.n ps):=by
 induction ps with
 |nil=>simp[nmL]
 |cons p r ih=>
  simp only[nmL,List.map_cons,List.sum_cons,List.length_cons]at ih⊢;simp only[nmTxn,TxnQ.n]at ih⊢;omega
theorem q1a(ps:List RoundQ):nmL nmRound ps≤nmL RoundQ.n ps:=by
 induction ps with
 |nil=>simp[nmL]
 |cons p r ih=>
  simp only[nmL,List.map_cons,List.sum_cons]at ih⊢;simp only[nmRound,RoundQ.n]at ih⊢;omega
theorem q6b{q p:InstQ}(h:q.e=p.e):q.n=p.n:=by
 simp only[o,InstE.mk.injEq]at h;obtain⟨_,h1,h2,h3⟩:=h;have t1:q.batch.length=p.batch.length:=by simpa using congrArg List.length h1
 have t2:nmL TxnQ.n q.batch=nmL TxnQ.n p.batch:=by
  have:=congrArg (fun l=>nmL (fun d:TxnD=>d.acts.length) l) h1;simp only[nmL,List.map_map]at this;exact this
 have t3:q.rounds.length=p.rounds.length:=by simpa using congrArg List.length h2
 have t4:nmL RoundQ.n q.rounds=nmL RoundQ.n p.rounds:=by
  have:=congrArg (fun l=>nmL (fun d:RoundE=>d.rep.length+d.pro.length) l) h2;simp only[nmL,List.map_map]at this;exact this
 unfold f;rw[t1,t2,t3,t4,h3]
abbrev q6V(code cc:Int)(cd ck:Bool)(cx:Int)(p:InstQ):Array Value:=#[Q S code,Q S cc,.bool cd,.bool ck,Q S cx,.bool p.has,p.vb,p.vr,p.vd]
end Go.Proofs.YtjjoahhnkpjolaaGreatDoor

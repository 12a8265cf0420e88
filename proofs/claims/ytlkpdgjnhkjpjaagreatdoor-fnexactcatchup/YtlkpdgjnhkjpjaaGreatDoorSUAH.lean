import Derived.Test.YtlkpdgjnhkjpjaaGreatDoorSUAG
set_option linter.unusedVariables false
set_option linter.unusedSimpArgs false
set_option maxRecDepth 100000
set_option maxHeartbeats 2000000
namespace Go.Proofs.YtlkpdgjnhkjpjaaGreatDoor
open Go.RowKit Go.BigFrame
open Nat renaming le_refl->U,zero_le->G
open IntKind renaming i64->S
open Value renaming int->T
open Go.Proofs.Tryz
theorem q01(a:Option Addr)(cap:Nat)(zs:List Int)(w:World)(h:Row .i64 w a zs)(hl:zs.length=3):
  Calls Tryz.prog 281 #[.slice a 3 cap] w fun e w'=>e=.returned (.bool (q16 zs))∧Below w.heap.size w w':=by
 have hc0:=z0E a cap zs 7 0 w h hl (by decide);have hc1:=fun w h=>z0E a cap zs 7 1 w h hl (by decide)
 unfold q16;generalize cnt 7 zs 0=z at*;generalize cnt 7 zs 1=o at*;by_cases hz:0<z
 ·have hd:decide (0<z)=true:=decide_eq_true hz;rw[hd];go_enter func281,ntmps281
  go_wp2_with fail
  refine hc0.mono ?_;rintro e w1 ⟨rfl,b1⟩;have h1:=hc1 w1 (h.below b1);clear hc0 hc1
  go_wp2_with fail
  refine h1.mono ?_;rintro e w2 ⟨rfl,b2⟩;replace b2:=b1.trans (b2.mono b1.size);clear h1
  go_wp2
  go_ret;exact⟨by simp,b2⟩
 ·have hd:decide (0<z)=false:=decide_eq_false hz;rw[hd];clear hc1;go_enter func281,ntmps281
  go_wp2_with fail
  refine hc0.mono ?_;rintro e w1 ⟨rfl,b1⟩;clear hc0
  go_wp2
  go_ret;exact⟨by simp,b1⟩
theorem z8k(a:Option Addr)(cap:Nat)(zs:List Int)(m c:Int)(w:World)(h:Row .i64 w a zs)(hl:zs.length=3)(hm:inB m 0 7=true):
  Calls Tryz.prog 282 #[.slice a 3 cap,T S m,T S c] w fun e w'=>e=.returned (.agg #[T S 0,.bool (chD (cnt m zs 0) (cnt m zs 1)),.bool (chK (cnt m zs 0) (cnt m zs 1)),T S (chV (cnt m zs 0) (cnt m zs 1) c)])∧Below w.heap.size w w':=by
 have hB:Below w.heap.size w (w.alloc (.cells #[T S 0,.bool false,.bool false,T S 0] 277)):=by go_grown
 have Bx:=Blk.new w 277 #[T S 0,.bool false,.bool false,T S 0];have hi0:=z2u m zs 0;have hi1:=z2u m zs 1;have hc0:=z0E a cap zs m 0 _ (h.below hB) hl hm;have hc1:=fun w h=>z0E a cap zs m 1 w h hl hm
 generalize cnt m zs 0=z at*;generalize cnt m zs 1=o at*;obtain⟨D,hD⟩:∃D,chD z o=D:=⟨_,rfl⟩
 obtain⟨K,hK⟩:∃K,chK z o=K:=⟨_,rfl⟩
 obtain⟨V,hV⟩:∃V,chV z o c=V:=⟨_,rfl⟩
 rw[hD,hK,hV];unfold chD at hD;unfold chK at hK;unfold chV at hV;by_cases hz:0<z
 ·have HE:Hid (D=decide (2≤z)∧K=false∧V=0):=by
   rw[if_pos hz]at hD hV;rw[decide_eq_true hz]at hK;exact⟨hD.symm,hK.symm,hV.symm⟩
  clear hD hK hV hc1;go_enter func282,ntmps282
  go_wp2
  refine wp_loop_rounds 1 ?_;rw[rounds_succ]
  go_wp2_with fail
  generalize w.alloc (.cells #[T S 0,.bool false,.bool false,T S 0] 277)=W at*;refine hc0.mono ?_;rintro e w1 ⟨rfl,hb⟩;replace Bx:=Bx.below hb;replace hB:=hB.trans (hb.mono hB.size);obtain⟨p0,p1,p2,p3⟩:=Bx.cel4;obtain⟨f0,f1,f2,f3⟩:=Bx.frz4;clear hb Bx hc0
  go_wp2
  exact bodyPost_ret (v:=.agg #[T S 0,.bool (decide (2≤z)),.bool false,T S 0]) (by simp[results,results282,go_sem,p0,p1,p2,p3]) rfl ⟨by rw[HE.out.1,HE.out.2.1,HE.out.2.2],((((hB.setCell (p:=⟨w.heap.size,0,none⟩) (U _) _).setCell (p:=⟨w.heap.size,1,none⟩) (U _) _).setCell (p:=⟨w.heap.size,2,none⟩) (U _) _).setCell (p:=⟨w.heap.size,3,none⟩) (U _) _)⟩
 ·have HE:Hid (D=decide (2≤o)∧K=!decide (0<o)∧V=if 0<o then 1 else c):=by
   rw[if_neg hz]at hD hV;rw[decide_eq_false hz]at hK;exact⟨hD.symm,by simpa using hK.symm,hV.symm⟩
  clear hD hK hV;go_enter func282,ntmps282
  go_wp2
  refine wp_loop_rounds 3 ?_;rw[rounds_succ]
  go_wp2_with fail
  generalize w.alloc (.cells #[T S 0,.bool false,.bool false,T S 0] 277)=W at*;refine hc0.mono ?_;rintro e w1 ⟨rfl,hb⟩;replace Bx:=Bx.below hb;replace hB:=hB.trans (hb.mono hB.size);have h1:=hc1 w1 (h.below hB);clear hb hc0 hc1
  go_wp2_with fail
  rw[rounds_succ]
  go_wp2_with fail
  refine h1.mono ?_;rintro e w2 ⟨rfl,hb⟩;replace Bx:=Bx.below hb;replace hB:=hB.trans (hb.mono hB.size);obtain⟨p0,p1,p2,p3⟩:=Bx.cel4;obtain⟨f0,f1,f2,f3⟩:=Bx.frz4;clear hb Bx h1;by_cases ho:0<o
  ·have HE2:Hid (D=decide (2≤o)∧K=false∧V=1):=by
    obtain⟨x,y,z⟩:=HE.out;rw[if_pos ho]at z;rw[decide_eq_true ho]at y;exact⟨x,y,z⟩
   clear HE
   go_wp2
   exact bodyPost_ret (v:=.agg #[T S 0,.bool (decide (2≤o)),.bool false,T S 1]) (by simp[results,results282,go_sem,p0,p1,p2,p3]) rfl ⟨by rw[HE2.out.1,HE2.out.2.1,HE2.out.2.2],((((hB.setCell (p:=⟨w.heap.size,0,none⟩) (U _) _).setCell (p:=⟨w.heap.size,1,none⟩) (U _) _).setCell (p:=⟨w.heap.size,2,none⟩) (U _) _).setCell (p:=⟨w.heap.size,3,none⟩) (U _) _)⟩
  ·have HE2:Hid (D=false∧K=true∧V=c):=by
    obtain⟨x,y,z⟩:=HE.out;rw[if_neg ho]at z;rw[decide_eq_false ho]at y;rw[decide_eq_false (by omega)]at x;exact⟨x,y,z⟩
   clear HE
   go_wp2
   rw[rounds_succ]
   go_wp2
   exact bodyPost_ret (v:=.agg #[T S 0,.bool false,.bool true,T S c]) (by simp[results,results282,go_sem,p0,p1,p2,p3]) rfl ⟨by rw[HE2.out.1,HE2.out.2.1,HE2.out.2.2],((((hB.setCell (p:=⟨w.heap.size,0,none⟩) (U _) _).setCell (p:=⟨w.heap.size,1,none⟩) (U _) _).setCell (p:=⟨w.heap.size,2,none⟩) (U _) _).setCell (p:=⟨w.heap.size,3,none⟩) (U _) _)⟩
theorem z6d(a:Option Addr)(cap:Nat)(zs:List Int)(m c:Int)(w:World)(h:Row .i64 w a zs)(hm:zs.length≤9223372036854775807):
  Calls Tryz.prog 255 #[.slice a zs.length cap,T S m,T S c] w fun e w'=>e=.returned (.agg #[T S (chC zs m c),.bool (cfD zs m c),.bool (cfK zs m c),T S (cfV zs m c)])∧Below w.heap.size w w':=by
 obtain⟨C,hC⟩:∃C,chC zs m c=C:=⟨_,rfl⟩
 obtain⟨D,hD⟩:∃D,cfD zs m c=D:=⟨_,rfl⟩
 obtain⟨K,hK⟩:∃K,cfK zs m c=K:=⟨_,rfl⟩
 obtain⟨V,hV⟩:∃V,cfV zs m c=V:=⟨_,rfl⟩
 rw[hC,hD,hK,hV];have HN:Hid (∀x,chC zs m c=x→x≠0→C=x∧D=false∧K=false∧V=0):=by
  intro x hx hn;refine⟨hC.symm.trans hx,?_,?_,?_⟩
  ·rw[←hD];simp[cfD,hx,hn]
  ·rw[←hK];simp[cfK,hx,hn]
  ·rw[←hV];simp[cfV,hx,hn]
 have HY:Hid (chC zs m c=0→C=0∧D=chD (cnt m zs 0) (cnt m zs 1)∧K=chK (cnt m zs 0) (cnt m zs 1)∧V=chV (cnt m zs 0) (cnt m zs 1) c):=by
  intro hx;refine⟨hC.symm.trans hx,?_,?_,?_⟩
  ·rw[←hD];simp[cfD,hx]
  ·rw[←hK];simp[cfK,hx]
  ·rw[←hV];simp[cfV,hx]
 clear hC hD hK hV;have hB:Below w.heap.size w (w.alloc (.cells #[T S 0,.bool false,.bool false,T S 0] 277)):=by go_grown
 have Bx:=Blk.new w 277 #[T S 0,.bool false,.bool false,T S 0];have hv:=z07 a cap zs 2 _ (h.below hB) hm;go_enter func255,ntmps255
 go_wp2_with fail
 generalize w.alloc (.cells #[T S 0,.bool false,.bool false,T S 0] 277)=W at*;refine hv.mono ?_;rintro e w1 ⟨rfl,hb⟩;replace Bx:=Bx.below hb;replace hB:=hB.trans (hb.mono hB.size);clear hv hb;by_cases h0:vf zs 2=0
 ·have hl:=z06 h0;rw[h0,hl];by_cases d:inB c 0 1=true
  ·have I:=q01 a cap zs w1 (h.below hB) hl
   go_wp2_with fail
   refine(z1q _ _ _ _).mono ?_;rintro e w' ⟨rfl,hw⟩;replace hw:=hw.symm;subst hw;rw[d]
   go_wp2_with fail
   refine I.mono ?_;rintro e w2 ⟨rfl,hb⟩;replace Bx:=Bx.below hb;replace hB:=hB.trans (hb.mono hB.size);clear hb I;by_cases z:q16 zs=true
   ·have HE:=HN.out 1 (by simp[chC,h0,d,z]) (by omega);have HE:Hid _:=HE;obtain⟨p0,p1,p2,p3⟩:=Bx.cel4;obtain⟨f0,f1,f2,f3⟩:=Bx.frz4;rw[z];clear HN HY Bx h0 hl
    go_wp2
    exact bodyPost_ret (v:=.agg #[T S 1,.bool false,.bool false,T S 0]) (by simp[results,results255,go_sem,p0,p1,p2,p3]) rfl ⟨by rw[HE.out.1,HE.out.2.1,HE.out.2.2.1,HE.out.2.2.2],((((hB.setCell (p:=⟨w.heap.size,0,none⟩) (U _) _).setCell (p:=⟨w.heap.size,1,none⟩) (U _) _).setCell (p:=⟨w.heap.size,2,none⟩) (U _) _).setCell (p:=⟨w.heap.size,3,none⟩) (U _) _)⟩
   ·have y:q16 zs=false:=by simpa using z
    have hh:=z5r a cap zs m w2 (h.below hB) hl;rw[y]
    go_wp2_with fail
    refine hh.mono ?_;rintro e w3 ⟨rfl,hb⟩;replace Bx:=Bx.below hb;replace hB:=hB.trans (hb.mono hB.size);clear hb hh;by_cases h1:z2w zs m=true
    ·have HE:=HY.out (by simp[chC,h0,d,y,h1]);have HE:Hid _:=HE;have J:=z8k a cap zs m c w3 (h.below hB) hl (z4X h1);rw[h1];generalize chD (cnt m zs 0) (cnt m zs 1)=D1 at*;generalize chK (cnt m zs 0) (cnt m zs 1)=K1 at*;generalize chV (cnt m zs 0) (cnt m zs 1) c=V1 at*
     go_wp2_with fail
     refine J.mono ?_;rintro e w4 ⟨rfl,hb⟩;replace Bx:=Bx.below hb;replace hB:=hB.trans (hb.mono hB.size);obtain⟨p0,p1,p2,p3⟩:=Bx.cel4;obtain⟨f0,f1,f2,f3⟩:=Bx.frz4;clear hb J HN HY Bx h0 hl
     go_wp2
     exact bodyPost_ret (v:=.agg #[T S 0,.bool D1,.bool K1,T S V1]) (by simp[results,results255,go_sem,p0,p1,p2,p3]) rfl ⟨by rw[HE.out.1,HE.out.2.1,HE.out.2.2.1,HE.out.2.2.2],((((hB.setCell (p:=⟨w.heap.size,0,none⟩) (U _) _).setCell (p:=⟨w.heap.size,1,none⟩) (U _) _).setCell (p:=⟨w.heap.size,2,none⟩) (U _) _).setCell (p:=⟨w.heap.size,3,none⟩) (U _) _)⟩
    ·have E:z2w zs m=false:=by simpa using h1
     have HE:=HN.out 10 (by simp[chC,h0,d,y,E]) (by omega);have HE:Hid _:=HE;rw[E];obtain⟨p0,p1,p2,p3⟩:=Bx.cel4;obtain⟨f0,f1,f2,f3⟩:=Bx.frz4;clear HN HY Bx h0 hl
     go_wp2
     exact bodyPost_ret (v:=.agg #[T S 10,.bool false,.bool false,T S 0]) (by simp[results,results255,go_sem,p0,p1,p2,p3]) rfl ⟨by rw[HE.out.1,HE.out.2.1,HE.out.2.2.1,HE.out.2.2.2],((((hB.setCell (p:=⟨w.heap.size,0,none⟩) (U _) _).setCell (p:=⟨w.heap.size,1,none⟩) (U _) _).setCell (p:=⟨w.heap.size,2,none⟩) (U _) _).setCell (p:=⟨w.heap.size,3,none⟩) (U _) _)⟩
  ·have A:inB c 0 1=false:=by simpa using d
   have HE:=HN.out 3 (by simp[chC,h0,A]) (by omega);have HE:Hid _:=HE;obtain⟨p0,p1,p2,p3⟩:=Bx.cel4;obtain⟨f0,f1,f2,f3⟩:=Bx.frz4;clear HN HY Bx h0 hl
   go_wp2_with (go_at_call 108;refine(z1q _ _ _ _).mono ?_;rintro e w' ⟨rfl,hw⟩;replace hw:=hw.symm;subst hw)
   exact bodyPost_ret (v:=.agg #[T S 3,.bool false,.bool false,T S 0]) (by simp[results,results255,go_sem,p0,p1,p2,p3]) rfl ⟨by rw[HE.out.1,HE.out.2.1,HE.out.2.2.1,HE.out.2.2.2],((((hB.setCell (p:=⟨w.heap.size,0,none⟩) (U _) _).setCell (p:=⟨w.heap.size,1,none⟩) (U _) _).setCell (p:=⟨w.heap.size,2,none⟩) (U _) _).setCell (p:=⟨w.heap.size,3,none⟩) (U _) _)⟩
 ·have HE:=HN.out (vf zs 2) (by simp[chC,h0]) h0;have HE:Hid _:=HE;have L:(vf zs 2 !=0)=true:=by simpa using h0
  obtain⟨p0,p1,p2,p3⟩:=Bx.cel4;obtain⟨f0,f1,f2,f3⟩:=Bx.frz4;clear HN HY Bx h0;generalize vf zs 2=x at*
  go_wp2
  exact bodyPost_ret (v:=.agg #[T S x,.bool false,.bool false,T S 0]) (by simp[results,results255,go_sem,p0,p1,p2,p3]) rfl ⟨by rw[HE.out.1,HE.out.2.1,HE.out.2.2.1,HE.out.2.2.2],((((hB.setCell (p:=⟨w.heap.size,0,none⟩) (U _) _).setCell (p:=⟨w.heap.size,1,none⟩) (U _) _).setCell (p:=⟨w.heap.size,2,none⟩) (U _) _).setCell (p:=⟨w.heap.size,3,none⟩) (U _) _)⟩
def z3J(f:Nat→Bool)(n:Nat):Bool:=(List.range n).any f
theorem z4Y(f:Nat→Bool)(k:Nat)(h:z3J f k=false)(hk:f k=false):z3J f (k+1)=false:=by
 unfold z3J at*;rw[List.range_succ,List.any_append,h,List.any_cons,hk];rfl
theorem z69(f:Nat→Bool)(k:Nat)(hk:k<8)(h:f k=true):z3J f 8=true:=by
 unfold z3J;rw[List.any_eq_true];exact⟨k,List.mem_range.2 hk,h⟩
def pB(zs:List Int)(v:Int)(k:Nat):Bool:=(pfC zs k==0) && (pfV zs k==v)
def mayP(zs:List Int)(v:Int):Bool:=z3J (pB zs v) 8
def rB(zs:List Int)(v:Int)(k:Nat):Bool:=(chC zs k v==0) && (cfV zs k v==v)
def mayR(zs:List Int)(v:Int):Bool:=z3J (rB zs v) 8
theorem q0d(f:Nat→Bool)(h:∀k,f k=false)(n:Nat):z3J f n=false:=by
 unfold z3J;rw[List.any_eq_false];intro x _;rw[h x];decide
theorem q5b(zs:List Int)(v:Int)(h:inB v 0 1=false):mayR zs v=false:=by
 refine q0d _ (fun k=>?_) 8;have hc:(chC zs k v==0)=false:=by
  rw[beq_eq_false_iff_ne];unfold chC;rw[h];split
  ·simp
  ·assumption
 simp only[rB,hc,Bool.false_and]
theorem z8l(a:Option Addr)(cap:Nat)(zs:List Int)(v:Int)(w:World)(hG:Rul w)(h:Row .i64 w a zs)(hm:zs.length≤9223372036854775807):
  Calls Tryz.prog 292 #[.slice a zs.length cap,T S v] w fun e w'=>e=.returned (.bool (mayP zs v))∧Below w.heap.size w w':=by
 have HT:Hid (∀k,k<8→pB zs v k=true→mayP zs v=true):=fun k hk h=>z69 _ k hk h
 have HF:Hid (z3J (pB zs v) 8=false→mayP zs v=false):=fun h=>h
 generalize mayP zs v=E at HT HF⊢;go_enter func292,ntmps292
 go_wp2
 go_loopw[6] (fun i wr=>∃k:Nat,k≤8∧i=T S k∧z3J (pB zs v) k=false∧Below w.heap.size w wr) (fun i _=>8-(intOf i).toNat)
 case atStart=>exact⟨0,G _,rfl,rfl,Below.refl _ _⟩
 case round=>
  obtain⟨k,hk,rfl,c,hb⟩:=hrel;by_cases D:k<8
  ·have hc:=z8i a cap zs k wr (hG.below hb) (h.below hb) hm;have HS:Hid (pB zs v k=false→z3J (pB zs v) (k+1)=false):=fun h=>z4Y _ k c h
   have HY:Hid (pB zs v k=true→E=true):=fun h=>HT.out k D h
   have x:pB zs v k=((pfC zs k==0) && (pfV zs k==v)):=rfl;rw[x]at HS HY;clear HT HF c x;generalize pfC zs k=C at*;generalize pfV zs k=V at*
   go_wp2_with fail
   refine hc.mono ?_;rintro e w1 ⟨rfl,d⟩;replace hb:=hb.trans (d.mono hb.size);clear hc d;by_cases h1:C=0
   ·subst h1;by_cases h2:(V==v)=true
    ·have HE:Hid (E=true):=HY.out (by rw[h2];rfl);clear HS HY
     go_wp2
     go_ret;exact⟨by rw[HE.out];rfl,by repeat first|exact hb|refine Below.alloc ?_ (by have:=hb.size;simp;omega) _⟩
    ·have z:(V==v)=false:=by simpa using h2
     have R:Hid (z3J _ (k+1)=false):=HS.out (by rw[z];rfl);clear HS HY h2
     go_wp2
     go_roundw
     case rel=>exact⟨k+1,by omega,by go_num,R.out,by repeat first|exact hb|refine Below.alloc ?_ (by have:=hb.size;simp;omega) _⟩
     case measure=>simp[intOf];omega
   ·have y:(C==0)=false:=by simpa using h1
    have R:Hid (z3J _ (k+1)=false):=HS.out (by rw[y];rfl);clear HS HY h1
    go_wp2
    go_roundw
    case rel=>exact⟨k+1,by omega,by go_num,R.out,by repeat first|exact hb|refine Below.alloc ?_ (by have:=hb.size;simp;omega) _⟩
    case measure=>simp[intOf];omega
  ·have A:k=8:=by omega
   subst A;have HE:Hid (E=false):=HF.out c;clear HT HF c
   go_wp2
   go_ret;exact⟨by rw[HE.out];rfl,hb⟩
theorem z8m(a:Option Addr)(cap:Nat)(zs:List Int)(v:Int)(w:World)(h:Row .i64 w a zs)(hm:zs.length≤9223372036854775807):
  Calls Tryz.prog 264 #[.slice a zs.length cap,T S v] w fun e w'=>e=.returned (.bool (mayP zs v))∧Below w.heap.size w w':=by
 have HT:Hid (∀k,k<8→pB zs v k=true→mayP zs v=true):=fun k hk h=>z69 _ k hk h
 have HF:Hid (z3J (pB zs v) 8=false→mayP zs v=false):=fun h=>h
 generalize mayP zs v=E at HT HF⊢;go_enter func264,ntmps264
 go_wp2
 go_loopw[5] (fun i wr=>∃k:Nat,k≤8∧i=T S k∧z3J (pB zs v) k=false∧Below w.heap.size w wr) (fun i _=>8-(intOf i).toNat)
 case atStart=>exact⟨0,G _,rfl,rfl,Below.refl _ _⟩
 case round=>
  obtain⟨k,hk,rfl,c,hb⟩:=hrel;by_cases D:k<8
  ·have hc:=z8j a cap zs k wr (h.below hb) hm;have HS:Hid (pB zs v k=false→z3J (pB zs v) (k+1)=false):=fun h=>z4Y _ k c h
   have HY:Hid (pB zs v k=true→E=true):=fun h=>HT.out k D h
   have x:pB zs v k=((pfC zs k==0) && (pfV zs k==v)):=rfl;rw[x]at HS HY;clear HT HF c x;generalize pfC zs k=C at*;generalize pfV zs k=V at*
   go_wp2_with fail
   refine hc.mono ?_;rintro e w1 ⟨rfl,d⟩;replace hb:=hb.trans (d.mono hb.size);clear hc d;by_cases h1:C=0
   ·subst h1;by_cases h2:(V==v)=true
    ·have HE:Hid (E=true):=HY.out (by rw[h2];rfl);clear HS HY
     go_wp2
     go_ret;exact⟨by rw[HE.out];rfl,by repeat first|exact hb|refine Below.alloc ?_ (by have:=hb.size;simp;omega) _⟩
    ·have z:(V==v)=false:=by simpa using h2
     have R:Hid (z3J _ (k+1)=false):=HS.out (by rw[z];rfl);clear HS HY h2
     go_wp2
     go_roundw
     case rel=>exact⟨k+1,by omega,by go_num,R.out,by repeat first|exact hb|refine Below.alloc ?_ (by have:=hb.size;simp;omega) _⟩
     case measure=>simp[intOf];omega
   ·have y:(C==0)=false:=by simpa using h1
    have R:Hid (z3J _ (k+1)=false):=HS.out (by rw[y];rfl);clear HS HY h1
    go_wp2
    go_roundw
    case rel=>exact⟨k+1,by omega,by go_num,R.out,by repeat first|exact hb|refine Below.alloc ?_ (by have:=hb.size;simp;omega) _⟩
    case measure=>simp[intOf];omega
  ·have A:k=8:=by omega
   subst A;have HE:Hid (E=false):=HF.out c;clear HT HF c
   go_wp2
   go_ret;exact⟨by rw[HE.out];rfl,hb⟩
theorem z4x(a:Option Addr)(cap:Nat)(zs:List Int)(v:Int)(w:World)(hG:Rul w)(h:Row .i64 w a zs)(hm:zs.length≤9223372036854775807):
  Calls Tryz.prog 289 #[.slice a zs.length cap,T S v] w fun e w'=>e=.returned (.bool (mayR zs v))∧Below w.heap.size w w':=by
 have HT:Hid (∀k,k<8→rB zs v k=true→mayR zs v=true):=fun k hk h=>z69 _ k hk h
 have HF:Hid (z3J (rB zs v) 8=false→mayR zs v=false):=fun h=>h
 generalize mayR zs v=E at HT HF⊢;go_enter func289,ntmps289
 go_wp2
 go_loopw[7] (fun i wr=>∃k:Nat,k≤8∧i=T S k∧z3J (rB zs v) k=false∧Below w.heap.size w wr) (fun i _=>8-(intOf i).toNat)
 case atStart=>exact⟨0,G _,rfl,rfl,Below.refl _ _⟩
 case round=>
  obtain⟨k,hk,rfl,c,hb⟩:=hrel;by_cases I:k<8
  ·have hc:=z6c a cap zs k v wr (hG.below hb) (h.below hb) hm;have HS:Hid (rB zs v k=false→z3J (rB zs v) (k+1)=false):=fun h=>z4Y _ k c h
   have HY:Hid (rB zs v k=true→E=true):=fun h=>HT.out k I h
   have x:rB zs v k=((chC zs k v==0) && (cfV zs k v==v)):=rfl;rw[x]at HS HY;clear HT HF c x;generalize chC zs k v=C at*;generalize cfD zs k v=D at*;generalize cfK zs k v=K at*;generalize cfV zs k v=V at*
   go_wp2_with fail
   refine hc.mono ?_;rintro e w1 ⟨rfl,d⟩;replace hb:=hb.trans (d.mono hb.size);clear hc d;by_cases h1:C=0
   ·subst h1;by_cases h2:(V==v)=true
    ·have HE:Hid (E=true):=HY.out (by rw[h2];rfl);clear HS HY
     go_wp2
     go_ret;exact⟨by rw[HE.out];rfl,by repeat first|exact hb|refine Below.alloc ?_ (by have:=hb.size;simp;omega) _⟩
    ·have z:(V==v)=false:=by simpa using h2
     have R:Hid (z3J _ (k+1)=false):=HS.out (by rw[z];rfl);clear HS HY h2
     go_wp2
     go_roundw
     case rel=>exact⟨k+1,by omega,by go_num,R.out,by repeat first|exact hb|refine Below.alloc ?_ (by have:=hb.size;simp;omega) _⟩
     case measure=>simp[intOf];omega
   ·have y:(C==0)=false:=by simpa using h1
    have R:Hid (z3J _ (k+1)=false):=HS.out (by rw[y];rfl);clear HS HY h1
    go_wp2
    go_roundw
    case rel=>exact⟨k+1,by omega,by go_num,R.out,by repeat first|exact hb|refine Below.alloc ?_ (by have:=hb.size;simp;omega) _⟩
    case measure=>simp[intOf];omega
  ·have A:k=8:=by omega
   subst A;have HE:Hid (E=false):=HF.out c;clear HT HF c
   go_wp2
   go_ret;exact⟨by rw[HE.out];rfl,hb⟩
theorem z4y(a:Option Addr)(cap:Nat)(zs:List Int)(v:Int)(w:World)(h:Row .i64 w a zs)(hm:zs.length≤9223372036854775807):
  Calls Tryz.prog 265 #[.slice a zs.length cap,T S v] w fun e w'=>e=.returned (.bool (mayR zs v))∧Below w.heap.size w w':=by
 have HT:Hid (∀k,k<8→rB zs v k=true→mayR zs v=true):=fun k hk h=>z69 _ k hk h
 have HF:Hid (z3J (rB zs v) 8=false→mayR zs v=false):=fun h=>h
 by_cases y:inB v 0 1=true
 case neg=>
  have z:inB v 0 1=false:=by simpa using y
  rw[q5b zs v z];clear y HT HF;go_enter func265,ntmps265
  go_wp2_with (go_at_call 108;refine(z1q _ _ _ _).mono ?_;rintro e w' ⟨rfl,rfl⟩)
  go_ret;exact⟨rfl,Below.refl _ _⟩
 generalize mayR zs v=E at HT HF⊢;go_enter func265,ntmps265
 go_wp2_with (go_at_call 108;refine(z1q _ _ _ _).mono ?_;rintro e w' ⟨rfl,hw⟩;replace hw:=hw.symm;subst hw)
 go_loopw[5] (fun i wr=>∃k:Nat,k≤8∧i=T S k∧z3J (rB zs v) k=false∧Below w.heap.size w wr) (fun i _=>8-(intOf i).toNat)
 case atStart=>exact⟨0,G _,rfl,rfl,Below.refl _ _⟩
 case round=>
  obtain⟨k,hk,rfl,c,hb⟩:=hrel;by_cases L:k<8
  ·have hc:=z6d a cap zs k v wr (h.below hb) hm;have HS:Hid (rB zs v k=false→z3J (rB zs v) (k+1)=false):=fun h=>z4Y _ k c h
   have HY:Hid (rB zs v k=true→E=true):=fun h=>HT.out k L h
   have x:rB zs v k=((chC zs k v==0) && (cfV zs k v==v)):=rfl;rw[x]at HS HY;clear HT HF c x;generalize chC zs k v=C at*;generalize cfD zs k v=D at*;generalize cfK zs k v=K at*;generalize cfV zs k v=V at*
   go_wp2_with fail
   refine hc.mono ?_;rintro e w1 ⟨rfl,d⟩;replace hb:=hb.trans (d.mono hb.size);clear hc d;by_cases h1:C=0
   ·subst h1;by_cases h2:(V==v)=true
    ·have HE:Hid (E=true):=HY.out (by rw[h2];rfl);clear HS HY
     go_wp2
     go_ret;exact⟨by rw[HE.out];rfl,by repeat first|exact hb|refine Below.alloc ?_ (by have:=hb.size;simp;omega) _⟩
    ·have I:(V==v)=false:=by simpa using h2
     have R:Hid (z3J _ (k+1)=false):=HS.out (by rw[I];rfl);clear HS HY h2
     go_wp2
     go_roundw
     case rel=>exact⟨k+1,by omega,by go_num,R.out,by repeat first|exact hb|refine Below.alloc ?_ (by have:=hb.size;simp;omega) _⟩
     case measure=>simp[intOf];omega
   ·have A:(C==0)=false:=by simpa using h1
    have R:Hid (z3J _ (k+1)=false):=HS.out (by rw[A];rfl);clear HS HY h1
    go_wp2
    go_roundw
    case rel=>exact⟨k+1,by omega,by go_num,R.out,by repeat first|exact hb|refine Below.alloc ?_ (by have:=hb.size;simp;omega) _⟩
    case measure=>simp[intOf];omega
  ·have J:k=8:=by omega
   subst J;have HE:Hid (E=false):=HF.out c;clear HT HF c
   go_wp2
   go_ret;exact⟨by rw[HE.out];rfl,hb⟩
abbrev v4:List Int:=[0,1,2,3]
theorem z9s{most x:Int}(hm:most=1∨most=2)(h:vOk most x=true):x∈v4:=by
 unfold vOk inB at h;rw[Bool.or_eq_true,decide_eq_true_eq,beq_iff_eq]at h;exact q3w (by omega)
theorem q3M{zs:List Int}{most:Int}(hm:most=1∨most=2)(h:vf zs most=0):∃x∈v4,∃y∈v4,∃z∈v4,zs=[x,y,z]:=by
 have hl:=z06 h;obtain⟨x,y,z,rfl⟩:=q0G hl;unfold vf at h;rw[if_pos hl]at h;have ha:[x,y,z].all (vOk most)=true:=by
  by_cases hx:[x,y,z].all (vOk most)=true
  ·exact hx
  ·rw[if_neg hx]at h;simp at h
 simp only[List.all_cons,List.all_nil,Bool.and_true,Bool.and_eq_true]at ha;exact⟨x,z9s hm ha.1,y,z9s hm ha.2.1,z,z9s hm ha.2.2,rfl⟩
theorem q5c{zs:List Int}{m:Int}(h:pfC zs m=0):vf zs 1=0∧z2w zs m=true:=by
 unfold pfC at h;by_cases h0:vf zs 1=0
 ·rw[if_pos h0]at h;by_cases h1:z2w zs m=true
  ·exact⟨h0,h1⟩
  ·rw[if_neg h1]at h;simp at h
 ·rw[if_neg h0]at h;exact absurd h h0
def batF(ds:List TxnD):Int:=if ds.length<1∨4<ds.length then 2 else if allF ds=0 then(if(ds.map TxnD.id).Nodup then 0 else 6)else allF ds
def z0N:List RoundE→Int
 |[]=>0
 |r::rs=>if vf r.rep 1=0 then(if vf r.pro 2=0 then z0N rs else vf r.pro 2)else vf r.rep 1
def shpF(x:InstE):Int:=
 if x.has=false∧0<x.batch.length then 1 else
 if x.has=true∧batF x.batch≠0 then batF x.batch else
 if x.rounds.length<1∨4<x.rounds.length then 2 else
 if z0N x.rounds=0 then vf x.dec 1 else z0N x.rounds
def z0H:RoundE:=⟨[],[]⟩
def repA(rs:List RoundE)(r n:Nat):Int:=(rs.getD r z0H).rep.getD n 0
def proA(rs:List RoundE)(r n:Nat):Int:=(rs.getD r z0H).pro.getD n 0
def proR(rs:List RoundE)(r n:Nat):Bool:=(proA rs r n==3)||((repA rs r n !=3) && mayP (rs.getD r z0H).rep (proA rs r n))
def q3x(rs:List RoundE)(r n:Nat):Bool:=(proA rs (r-1) n !=3) && mayR (rs.getD (r-1) z0H).pro (repA rs r n)
def repI(has:Bool)(rs:List RoundE)(r n:Nat):Bool:=if repA rs r n=1∧has=false then false else if repA rs r n=3∨r=0 then true else q3x rs r n
def sayM(has:Bool)(rs:List RoundE)(r n:Nat):Bool:=proR rs r n && (if r=0∨repA rs r n=3 then true else q3x rs r n && (has||(repA rs r n==0)||decide (0<cnt 7 (rs.getD (r-1) z0H).pro 1)))
def agr(rs:List RoundE)(v:Int):Bool:=rs.any (fun r=>decide (2≤cnt 7 r.pro v))
def endR(rs:List RoundE)(v:Int):Bool:=(v==3)||agr rs v
def q1C(has:Bool)(rs:List RoundE)(r:Nat):Bool:=(repI has rs r 0 && proR rs r 0) && (repI has rs r 1 && proR rs r 1) && (repI has rs r 2 && proR rs r 2)
def q0e(has:Bool)(rs:List RoundE)(r:Nat):Bool:=sayM has rs r 0 && sayM has rs r 1 && sayM has rs r 2
def z55(rs:List RoundE)(dec:List Int):Bool:=endR rs (dec.getD 0 0) && endR rs (dec.getD 1 0) && endR rs (dec.getD 2 0)
def q51(x:InstE):Bool:=(List.range x.rounds.length).all (q1C x.has x.rounds) && z55 x.rounds x.dec
def q6O(x:InstE):Bool:=(x.has|| !decide (0<cnt 7 (x.rounds.getD 0 z0H).rep 1)) && (List.range x.rounds.length).all (q0e x.has x.rounds) && z55 x.rounds x.dec
def insF(x:InstE):Int:=if shpF x=0 then(if q51 x then 0 else 10)else shpF x
theorem q7e(zs:List Int)(v:Int):cnt 7 zs v=q1B (zs.getD 0 0==v) (zs.getD 1 0==v) (zs.getD 2 0==v):=by
 unfold cnt;rw[bit7.1,bit7.2.1,bit7.2.2];simp only[Bool.true_and]
theorem q3N(p q r:Bool):q4r (q4O p q r)=q1B p q r:=by cases p<;>cases q<;>cases r<;>decide+kernel
theorem q5d(zs:List Int)(v:Int):q4r (vot zs v)=cnt 7 zs v:=by
 rw[q7e];exact q3N _ _ _
theorem q3O(p q r:Bool):(0<q1B p q r)↔(p=true∨q=true∨r=true):=by cases p<;>cases q<;>cases r<;>decide
theorem z7a(zs:List Int)(v:Int):(0<cnt 7 zs v)↔∃n,n<3∧zs.getD n 0=v:=by
 rw[q7e,q3O];simp only[beq_iff_eq];constructor
 ·rintro(h|h|h)
  ·exact⟨0,by omega,h⟩
  ·exact⟨1,by omega,h⟩
  ·exact⟨2,by omega,h⟩
 ·rintro⟨n,hn,h⟩;have:n=0∨n=1∨n=2:=by omega
  rcases this with rfl|rfl|rfl
  ·exact Or.inl h
  ·exact Or.inr (Or.inl h)
  ·exact Or.inr (Or.inr h)
theorem q3P:∀x∈v4,∀y∈v4,∀z∈v4,mayP [x,y,z] 1=true→x=1∨y=1∨z=1:=by decide+kernel
theorem q17{zs:List Int}(h:mayP zs 1=true):∃n,n<3∧zs.getD n 0=1:=by
 by_cases h0:vf zs 1=0
 ·obtain⟨x,hx,y,hy,z,hz,rfl⟩:=q3M (Or.inl rfl) h0;rcases q3P x hx y hy z hz h with h|h|h
  ·exact⟨0,by omega,h⟩
  ·exact⟨1,by omega,h⟩
  ·exact⟨2,by omega,h⟩
 ·have:mayP zs 1=false:=q0d _ (fun k=>by
   have hc:(pfC zs k==0)=false:=by
    rw[beq_eq_false_iff_ne];intro e;exact h0 (q5c e).1
   simp only [pB,hc,Bool.false_and]) 8
  rw[this]at h;exact absurd h (by decide)
theorem z1Z{rs:List RoundE}(h:z0N rs=0)(r:Nat)(hr:r<rs.length):vf (rs.getD r z0H).rep 1=0∧vf (rs.getD r z0H).pro 2=0:=by
 induction rs generalizing r with
 |nil=>simp at hr
 |cons q t ih=>
  unfold z0N at h;by_cases h1:vf q.rep 1=0
  ·rw[if_pos h1]at h;by_cases h2:vf q.pro 2=0
   ·rw[if_pos h2]at h
    cases r with
    |zero=>exact⟨h1,h2⟩
    |succ r=>exact ih h r (by simpa using hr)
   ·rw[if_neg h2]at h;exact absurd h h2
  ·rw[if_neg h1]at h;exact absurd h h1
theorem q5e{zs:List Int}{most:Int}(h:vf zs most=0)(n:Nat)(hn:n<3):vOk most (zs.getD n 0)=true:=by
 have hl:=z06 h;unfold vf at h;rw[if_pos hl]at h;have ha:zs.all (vOk most)=true:=by
  by_cases hx:zs.all (vOk most)=true
  ·exact hx
  ·rw[if_neg hx]at h;simp at h
 have hg:zs.getD n 0=zs[n]:=by simp[List.getD,show n<zs.length by omega]
 rw[hg];exact List.all_eq_true.1 ha _ (List.getElem_mem _)
theorem vOk1{x:Int}(h:vOk 1 x=true):x=0∨x=1∨x=3:=by
 unfold vOk inB at h;rw[Bool.or_eq_true,decide_eq_true_eq,beq_iff_eq]at h;omega
theorem z7b(has:Bool)(rs:List RoundE)(r:Nat):q1C has rs r=true↔∀n,n<3→repI has rs r n=true∧proR rs r n=true:=by
 unfold q1C;simp only[Bool.and_eq_true];constructor
 ·rintro⟨⟨h0,h1⟩,h2⟩ n hn;have:n=0∨n=1∨n=2:=by omega
  rcases this with rfl|rfl|rfl
  ·exact h0
  ·exact h1
  ·exact h2
 ·intro h;exact⟨⟨h 0 (by omega),h 1 (by omega)⟩,h 2 (by omega)⟩
theorem z4Z(has:Bool)(rs:List RoundE)(r:Nat):q0e has rs r=true↔∀n,n<3→sayM has rs r n=true:=by
 unfold q0e;simp only[Bool.and_eq_true];constructor
 ·rintro⟨⟨h0,h1⟩,h2⟩ n hn;have:n=0∨n=1∨n=2:=by omega
  rcases this with rfl|rfl|rfl
  ·exact h0
  ·exact h1
  ·exact h2
 ·intro h;exact⟨⟨h 0 (by omega),h 1 (by omega)⟩,h 2 (by omega)⟩
theorem q6f{rs:List RoundE}(h0:¬0<cnt 7 (rs.getD 0 z0H).rep 1)(hM:∀r,r<rs.length→∀n,n<3→sayM false rs r n=true):∀r,r<rs.length→∀n,n<3→repA rs r n≠1:=by
 intro r;induction r with
 |zero=>
  intro _ n hn e;exact h0 ((z7a _ _).2 ⟨n,hn,e⟩)
 |succ r ih=>
  intro hr n hn e;have h:=hM (r+1) hr n hn;unfold sayM at h;rw[Bool.and_eq_true]at h;have h2:=h.2;rw[if_neg (by rw[e];omega),Bool.and_eq_true]at h2;have h3:=h2.2;rw[e]at h3;simp only[Bool.false_or,Nat.add_sub_cancel]at h3;have h4:0<cnt 7 (rs.getD r z0H).pro 1:=by simpa using h3
  obtain⟨m,hm,hp⟩:=(z7a _ _).1 h4;have h5:=hM r (by omega) m hm;unfold sayM at h5;rw[Bool.and_eq_true]at h5;have h6:=h5.1;unfold proR at h6;have hp':proA rs r m=1:=hp;rw[hp']at h6;simp only[Bool.or_eq_true,Bool.and_eq_true]at h6;rcases h6 with h6|h6
  ·exact absurd h6 (by decide)
  ·obtain⟨k,hk,hk1⟩:=q17 h6.2;exact ih (by omega) k hk hk1
theorem q3Q{x:InstE}(hr:z0N x.rounds=0)(hl:0<x.rounds.length):q6O x=q51 x:=by
 unfold q6O q51;rw[Bool.eq_iff_iff];simp only[Bool.and_eq_true,List.all_eq_true,List.mem_range,z7b,z4Z]
 cases hh:x.has with
 |true=>
  simp only[Bool.true_or,true_and];refine and_congr_left (fun _=>?_);refine forall_congr' (fun r=>forall_congr' (fun hr'=>forall_congr' (fun n=>forall_congr' (fun hn=>?_))));unfold sayM repI;rw[if_neg (show¬(repA x.rounds r n=1∧true=false) by simp)];simp only[Bool.true_or,Bool.and_true,Bool.and_eq_true];by_cases hc:repA x.rounds r n=3∨r=0
  ·rw[if_pos hc,if_pos hc.symm];exact and_comm
  ·rw[if_neg hc,if_neg (fun e=>hc e.symm)];exact and_comm
 |false=>
  simp only[Bool.false_or];constructor
  ·rintro⟨⟨h0,hM⟩,hE⟩;have h0':¬0<cnt 7 (x.rounds.getD 0 z0H).rep 1:=by simpa using h0
   have hno:=q6f h0' hM;refine⟨fun r hr' n hn=>?_,hE⟩;have h:=hM r hr' n hn;unfold sayM at h;rw[Bool.and_eq_true]at h;refine⟨?_,h.1⟩;unfold repI;rw[if_neg (fun e=>hno r hr' n hn e.1)];have h2:=h.2;by_cases hc:repA x.rounds r n=3∨r=0
   ·rw[if_pos hc]
   ·rw[if_neg hc];rw[if_neg (fun e=>hc e.symm),Bool.and_eq_true]at h2;exact h2.1
  ·rintro⟨hI,hE⟩;have hno:∀r,r<x.rounds.length→∀n,n<3→repA x.rounds r n≠1:=by
    intro r hr' n hn e;have h:=(hI r hr' n hn).1;unfold repI at h;rw[if_pos ⟨e,rfl⟩]at h;exact absurd h (by decide)
   refine⟨⟨?_,fun r hr' n hn=>?_⟩,hE⟩
   ·have:¬0<cnt 7 (x.rounds.getD 0 z0H).rep 1:=by
     intro h;obtain⟨n,hn,e⟩:=(z7a _ _).1 h;exact hno 0 hl n hn e
    simpa using this
   ·obtain⟨h1,h2⟩:=hI r hr' n hn;unfold sayM;rw[Bool.and_eq_true];refine⟨h2,?_⟩;unfold repI at h1;rw[if_neg (fun e=>hno r hr' n hn e.1)]at h1;by_cases hc:repA x.rounds r n=3∨r=0
    ·rw[if_pos hc.symm]
    ·rw[if_neg hc]at h1;rw[if_neg (fun e=>hc e.symm),Bool.and_eq_true];refine⟨h1,?_⟩;have hv:=vOk1 (q5e (z1Z hr r hr').1 n hn);have h0:repA x.rounds r n=0:=by
      rcases hv with h|h|h
      ·exact h
      ·exact absurd h (hno r hr' n hn)
      ·exact absurd (Or.inl h) hc
     rw[h0];simp
end Go.Proofs.YtlkpdgjnhkjpjaaGreatDoor

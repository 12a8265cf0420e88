/- Texts joined,with what the laws reach alone. -/
import Derived.Test.YtfpponhjhbfbeaaGreatDoorSOBC
set_option linter.unusedVariables false
set_option linter.unusedSimpArgs false
set_option maxRecDepth 100000
set_option maxHeartbeats 16000000
namespace Go.Proofs.YtfpponhjhbfbeaaGreatDoor
open Go.RowKit Go.BigFrame
theorem q0E(c v:Int)(w:World):(Instr.field 38 (.agg #[.int .i64 c,.int .i64 v]) 1).run Tryz.prog w=.ok (.int .i64 v) w:=by kernel_rfl
theorem pre7(v v':Value)(ps qs:List TxnQ){xs ys:List TxnD}(e1:ps.map TxnQ.e=xs)(e2:qs.map TxnQ.e=ys)(hp:preT xs ys=true)(w:World)(h:txnK.At w v ps)(h':txnK.Own w v' qs)(hl:ps.length+nmL TxnQ.n ps≤1048576)(hl':qs.length+nmL TxnQ.n qs≤1048576):
  Calls Tryz.prog 16 #[v,v'] w fun e w'=>e=.returned (.bool true)∧Below w.heap.size w w':=by
 have hq:=z1Q v v' ps qs w h h' hl hl';rw[e1,e2,hp]at hq;exact hq
theorem q0Y(v v':Value)(ps qs:List TxnQ){xs ys:List TxnD}(e1:ps.map TxnQ.e=xs)(e2:qs.map TxnQ.e=ys)(hp:sameTs xs ys=true)(w:World)(h:txnK.At w v ps)(h':txnK.At w v' qs)(hl:ps.length+nmL TxnQ.n ps≤1048576)(hl':qs.length+nmL TxnQ.n qs≤1048576):
  Calls Tryz.prog 21 #[v,v'] w fun e w'=>e=.returned (.bool true)∧Below w.heap.size w w':=by
 have hq:=z1P v v' (ps.map TxnQ.e) (qs.map TxnQ.e) w (z1f h) (z1f h') (by rw[List.length_map,z15];exact hl) (by rw[List.length_map,z15];exact hl');rw[e1,e2,hp]at hq;exact hq
theorem at2{w:World}{a:Option Addr}{m cap:Nat}{ps:List TxnQ}(h:txnK.At w (.slice a m cap) ps)(i k:Nat)(hi:i<ps.length)(hk:k<ps.length):
  ∃b off,a=some ⟨b,off,none⟩∧w.cell? ⟨b,off+i*4,none⟩=some (.int .i64 ps[i].i)∧w.cell? ⟨b,off+i*4+1,none⟩=some (.int .i64 ps[i].s)∧w.cell? ⟨b,off+i*4+2,none⟩=some (.int .i64 ps[i].q)∧w.cell? ⟨b,off+k*4,none⟩=some (.int .i64 ps[k].i)∧w.cell? ⟨b,off+k*4+1,none⟩=some (.int .i64 ps[k].s)∧w.cell? ⟨b,off+k*4+2,none⟩=some (.int .i64 ps[k].q):=by
 obtain⟨b,off,e,_,hc,_⟩:=h.cell (by decide) i hi;obtain⟨b',off',e',_,hc',_⟩:=h.cell (by decide) k hk;rw[e]at e';simp only[Option.some.injEq,Addr.mk.injEq]at e';obtain⟨rfl,rfl,_⟩:=e';exact⟨b,off,e,hc 0 _ rfl,hc 1 _ rfl,hc 2 _ rfl,hc' 0 _ rfl,hc' 1 _ rfl,hc' 2 _ rfl⟩
theorem q0H(a:Option Addr)(cap:Nat)(zs:List Int)(w:World)(hG:RulO w)(h:Row .u8 w a zs)(hu:∀i,0≤zs.getD i 0∧zs.getD i 0≤255)(hm:zs.length≤9223372036854775807):
  Calls Tryz.prog 3 #[.slice a zs.length cap] w fun e w'=>e=.returned (.bool true)∧Below w.heap.size w w':=by
 by_cases hle:zs.length≤1048576
 case neg=>
  have hd:decide (1048576<(zs.length:Int))=true:=decide_eq_true (by omega);go_enter Tryz.func3,Tryz.ntmps3
  go_wp2_with fail
  refine(z5D a zs.length cap w hm).mono ?_;rintro e w1 ⟨rfl,hw⟩;subst hw;rw[hd]
  go_wp2
  go_ret;exact⟨rfl,Below.refl _ _⟩
 have b0:Below w.heap.size w w:=Below.refl _ _;have hd:decide (1048576<(zs.length:Int))=false:=decide_eq_false (by omega);go_enter Tryz.func3,Tryz.ntmps3
 go_wp2_with fail
 refine(z5D a zs.length cap w hm).mono ?_;rintro e w1 ⟨rfl,hw⟩;replace hw:=hw.symm;subst hw;rw[hd]
 go_wp2_with fail
 refine(z2A a cap zs w h hu hle).mono ?_;rintro e w2 ⟨v,ps,n,rfl,h5,hpn,hO,hb⟩;replace b0:=b0.trans (hb.mono b0.size);replace hG:=hG.below hb;clear hb;have hll:ps.length+nmL InstQ.n ps≤1048576:=by have:=z1h InstQ.n 1000 ps hpn;omega
 obtain⟨adl,kl,rfl⟩:=hO.shape;have hAl:=hO.at;have cP:=hO.capOk;clear hO hpn h5
 go_wp2_with fail
 refine(z1n (.slice adl ps.length kl) ps n w2 hG.r hAl cP hll).mono ?_;rintro e w3 ⟨vd,td,rfl,ed,od,nd,gd,hb⟩;replace hAl:=hAl.below hb;replace b0:=b0.trans (hb.mono b0.size);replace hG:=hG.below hb;clear hb nd gd;have HD:Hid (td.map TxnQ.e=dfT (ps.map InstQ.e) n):=ed;have hld:td.length+nmL TxnQ.n td≤1048576:=z9R ed hll;have HS5:Hid (∀t1:List TxnQ,t1.map TxnQ.e=dfT (ps.map InstQ.e) n→t1.length+nmL TxnQ.n t1≤1048576):=fun t1 e1=>z9R e1 hll
 have HDF:Hid (dfC (ps.map InstQ.e) n=0→_):=fun hc=>q0C hc
 have hsl:=fun w h=>z2B (.slice adl ps.length kl) ps n w h hll
 have hol:=fun w hG h=>z02 (.slice adl ps.length kl) ps w hG h hll
 have hot:=fun w h=>z2z (.slice adl ps.length kl) ps w h hll
 have hAd:=od.at;obtain⟨add,kd,rfl⟩:=hAd.shape;clear ed od;generalize dfC (ps.map InstQ.e) n=CD at*;have hb:Below w3.heap.size w3 (w3.alloc (.cells #[.int .i64 CD,.slice add td.length kd] 29)):=by go_grown
 have D0:=Blk.new w3 29 #[.int .i64 CD,.slice add td.length kd];replace hAl:=hAl.below hb;replace hAd:=hAd.below hb;replace b0:=b0.trans (hb.mono b0.size);replace hG:=hG.below hb;clear hb
 go_wp2_with fail
 generalize w3.alloc (.cells #[.int .i64 CD,.slice add td.length kd] 29)=W3 at*;generalize w3.heap.size=gd at*;refine(z2V a cap zs W3 (h.below b0) hu hle).mono ?_;rintro e w4 ⟨v,px,rfl,h5,hpn,hO,hb⟩;replace hAl:=hAl.below hb;replace hAd:=hAd.below hb;replace D0:=D0.below hb;replace b0:=b0.trans (hb.mono b0.size);replace hG:=hG.below hb;clear hb;have hlx:px.length+nmL InstQ.n px≤1048576:=by have:=z1h InstQ.n 1000 px hpn;omega
 obtain⟨adx,kx,rfl⟩:=hO.shape;have hAx:=hO.at;clear hO hpn h5;have hdx:=fun w hG h=>z0S (.slice adx px.length kx) px w hG h hlx
 have hsx:=fun w h=>z2T (.slice adx px.length kx) px w h hlx
 generalize ordF (px.map InstQ.e)=OX at*;generalize diV (px.map InstQ.e)=VX at*
 go_wp2_with fail
 refine(z2a a cap zs w4 (h.below b0) hu hle).mono ?_;rintro e w5 ⟨v,py,rfl,h5y,hpn,hO,hb⟩;replace hAl:=hAl.below hb;replace hAd:=hAd.below hb;replace D0:=D0.below hb;replace hAx:=hAx.below hb;replace b0:=b0.trans (hb.mono b0.size);replace hG:=hG.below hb;clear hb;have hly:py.length+nmL InstQ.n py≤1048576:=by have:=z1h InstQ.n 1000 py hpn;omega
 obtain⟨ady,ky,rfl⟩:=hO.shape;have hAy:=hO.at;clear hO hpn
 go_wp2_with fail
 refine(z18 (.slice ady py.length ky) py w5 hG hAy hly).mono ?_;rintro e w6 ⟨ve,qe,rfl,ee,oe,ne,ge,hb⟩;replace hAl:=hAl.below hb;replace hAd:=hAd.below hb;replace D0:=D0.below hb;replace hAx:=hAx.below hb;replace hAy:=hAy.below hb;replace b0:=b0.trans (hb.mono b0.size);replace hG:=hG.below hb;clear hb ne ge;have hlqe:qe.length+nmL InstQ.n qe≤1048576:=q0U ee hly;have HNI:Hid (niC (py.map InstQ.e)=0→ordF (qe.map InstQ.e)=0∧qe.length=py.length+1):=fun hc=>by
  have hq:=q0D hc;rw[←ee]at hq;simpa using hq
 have hsy:=fun w h=>z19 (.slice ady py.length ky) py w h hly
 have hoe:=fun w hG h=>z02 ve qe w hG h hlqe
 have hAe:=oe.at;obtain⟨ade,ke,rfl⟩:=hAe.shape;clear ee oe;generalize niC (py.map InstQ.e)=CE at*;generalize niO (py.map InstQ.e)=NO at*;have hb:Below w6.heap.size w6 (w6.alloc (.cells #[.int .i64 CE,.slice ade qe.length ke] 33)):=by go_grown
 have E0:=Blk.new w6 33 #[.int .i64 CE,.slice ade qe.length ke];replace hAl:=hAl.below hb;replace hAd:=hAd.below hb;replace D0:=D0.below hb;replace hAx:=hAx.below hb;replace hAy:=hAy.below hb;replace hAe:=hAe.below hb;replace b0:=b0.trans (hb.mono b0.size);replace hG:=hG.below hb;clear hb
 go_wp2_with fail
 generalize w6.alloc (.cells #[.int .i64 CE,.slice ade qe.length ke] 33)=W6 at*;generalize w6.heap.size=ge at*;refine(z3l a cap zs W6 (h.below b0) hu hle).mono ?_;rintro e X ⟨v1,v2,qa,qb,rfl,hqa,hqb,hOa,hOb,hb⟩;replace hAl:=hAl.below hb;replace hAd:=hAd.below hb;replace D0:=D0.below hb;replace hAx:=hAx.below hb;replace hAy:=hAy.below hb;replace hAe:=hAe.below hb;replace E0:=E0.below hb;replace b0:=b0.trans (hb.mono b0.size);replace hG:=hG.below hb;clear hb h hu hm hle hd;have hAa:=hOa.at;clear hOa;obtain⟨ada,ka,rfl⟩:=hAa.shape;obtain⟨adb,kb,rfl⟩:=hOb.shape;have hip:=fun w h h'=>z1Q (.slice ada qa.length ka) (.slice adb qb.length kb) qa qb w h h' (by omega) (by omega)
 have hsp:=fun w h h'=>z3m (.slice ada qa.length ka) (.slice adb qb.length kb) qa qb w h h' (by omega) (by omega)
 generalize preT (qa.map TxnQ.e) (qb.map TxnQ.e)=PB at*;have n1:(OX !=OX)=false:=by simp
 have n2:(VX !=VX)=false:=by simp
 have n3:(CE !=CE)=false:=by simp
 have n4:(PB !=PB)=false:=by simp
 have hpy:(py.length:Int)≤5:=by omega
 go_wp2_with fail
 have hE:=E0;have y0:=E0.lat 0 _ rfl;have y1:=E0.lat 1 _ rfl;have hW:Below X.heap.size X X.drew:=(Below.refl _ _).drew;have hnn:Nonempty (Lat X):=⟨⟨X,Below.refl _ _⟩⟩
 by_cases hCE:CE=0
 focus
  obtain⟨hz1,hz2⟩:=HNI.out hCE;subst hCE;rw[hz1]at hoe;have hz3:((qe.length:Int) !=(py.length:Int)+1)=false:=by rw[hz2];simp
  have hlen9:(qe.length:Int)≤1048576:=by omega
  clear HNI hz1 hz2;refine z0i (S:=fun w'=>∃u:Lat X,w'=u.val) (by kernel_rfl) ?_;refine sgr [(0,1),(3,1)] 51 (by kernel_rfl) ⟨⟨_,hW⟩,rfl⟩ ?_;simp only[pkE];repeat go_big_quiet_step (fail)
  refine wpQuiet_nil ?_;refine cla 1 (some 36) 12 #[.slice adx px.length kx] 50 (by kernel_rfl) ?_;refine(hdx _ (hG.below hW).r (hAx.below hW)).mono ?_;rintro e w9 ⟨rfl,hb9⟩;replace hW:=hW.trans (hb9.mono hW.size);clear hb9;refine⟨_,rfl,⟨⟨_,hW⟩,rfl⟩,?_⟩;simp only[Act.put,pjE];refine qta 2 (some 37) (.int .i64 OX) 49 (by kernel_rfl) (fun u _=>by kernel_rfl) ⟨⟨_,hW⟩,rfl⟩ ?_;simp only[Act.put,pjE];refine cla 4 (some 39) 13 #[.slice adx px.length kx] 48 (by kernel_rfl) ?_;refine(hsx _ (hAx.below hW)).mono ?_;rintro e w9 ⟨rfl,hb9⟩;replace hW:=hW.trans (hb9.mono hW.size);clear hb9;refine⟨_,rfl,⟨⟨_,hW⟩,rfl⟩,?_⟩;simp only[Act.put,pjE];refine qta 5 (some 40) (.int .i64 OX) 47 (by kernel_rfl) (fun u _=>by kernel_rfl) ⟨⟨_,hW⟩,rfl⟩ ?_;simp only[Act.put,pjE];refine sgr [(6,3),(11,1)] 43 (by kernel_rfl) ⟨⟨_,hW⟩,rfl⟩ ?_;simp only[pkE];repeat go_big_quiet_step (fail)
  refine wpQuiet_nil ?_;refine cla 9 (some 44) 12 #[.slice adx px.length kx] 42 (by kernel_rfl) ?_;refine(hdx _ (hG.below hW).r (hAx.below hW)).mono ?_;rintro e w9 ⟨rfl,hb9⟩;replace hW:=hW.trans (hb9.mono hW.size);clear hb9;refine⟨_,rfl,⟨⟨_,hW⟩,rfl⟩,?_⟩;simp only[Act.put,pjE];refine qta 10 (some 45) (.int .i64 VX) 41 (by kernel_rfl) (fun u _=>by kernel_rfl) ⟨⟨_,hW⟩,rfl⟩ ?_;simp only[Act.put,pjE];refine cla 12 (some 47) 13 #[.slice adx px.length kx] 40 (by kernel_rfl) ?_;refine(hsx _ (hAx.below hW)).mono ?_;rintro e w9 ⟨rfl,hb9⟩;replace hW:=hW.trans (hb9.mono hW.size);clear hb9;refine⟨_,rfl,⟨⟨_,hW⟩,rfl⟩,?_⟩;simp only[Act.put,pjE];refine qta 13 (some 48) (.int .i64 VX) 39 (by kernel_rfl) (fun u _=>by kernel_rfl) ⟨⟨_,hW⟩,rfl⟩ ?_;simp only[Act.put,pjE];refine sgr [(14,6)] 33 (by kernel_rfl) ⟨⟨_,hW⟩,rfl⟩ ?_;simp only[pkE];repeat go_big_quiet_step (fail)
  refine wpQuiet_nil ?_;refine cla 20 (some 55) 14 #[.slice ady py.length ky] 32 (by kernel_rfl) ?_;refine(hsy _ (hAy.below hW)).mono ?_;rintro e w9 ⟨v5,q5,rfl,e5,o5,n5,g5,hb9⟩;replace hW:=hW.trans (hb9.mono hW.size);clear n5 g5 e5;obtain⟨ad5,k5,rfl⟩:=o5.shape;clear o5;clear hb9;refine⟨_,rfl,⟨⟨_,hW⟩,rfl⟩,?_⟩;simp only[Act.put,pjE];refine qta 21 (some 56) (.int .i64 0) 31 (by kernel_rfl) (fun u _=>by kernel_rfl) ⟨⟨_,hW⟩,rfl⟩ ?_;simp only[Act.put,pjE];refine sgr [(22,9)] 22 (by kernel_rfl) ⟨⟨_,hW⟩,rfl⟩ ?_;simp only[pkE];repeat go_big_quiet_step (fail)
  refine wpQuiet_nil ?_;refine cla 31 (some 66) 15 #[.slice ade qe.length ke] 21 (by kernel_rfl) ?_;refine(hoe _ (hG.below hW).r (hAe.below hW)).mono ?_;rintro e w9 ⟨rfl,hb9⟩;replace hW:=hW.trans (hb9.mono hW.size);clear hb9;refine⟨_,rfl,⟨⟨_,hW⟩,rfl⟩,?_⟩;simp only[Act.put,pjE];refine sgr [(32,4),(37,1)] 16 (by kernel_rfl) ⟨⟨_,hW⟩,rfl⟩ ?_;simp only[pkE];repeat go_big_quiet_step (fail)
  refine wpQuiet_nil ?_;refine qta 36 (some 71) (.int .i64 qe.length) 15 (by kernel_rfl) (fun u _=>by kernel_rfl) ⟨⟨_,hW⟩,rfl⟩ ?_;simp only[Act.put,pjE];refine qta 38 (some 73) (.int .i64 py.length) 14 (by kernel_rfl) (fun u _=>by kernel_rfl) ⟨⟨_,hW⟩,rfl⟩ ?_
 rotate_left
 focus
  have hcb:(CE==0)=false:=by simpa using hCE
  clear HNI hCE;refine z0i (S:=fun w'=>∃u:Lat X,w'=u.val) (by kernel_rfl) ?_;refine sgr [(0,1),(3,1)] 51 (by kernel_rfl) ⟨⟨_,hW⟩,rfl⟩ ?_;simp only[pkE];repeat go_big_quiet_step (fail)
  refine wpQuiet_nil ?_;refine cla 1 (some 36) 12 #[.slice adx px.length kx] 50 (by kernel_rfl) ?_;refine(hdx _ (hG.below hW).r (hAx.below hW)).mono ?_;rintro e w9 ⟨rfl,hb9⟩;replace hW:=hW.trans (hb9.mono hW.size);clear hb9;refine⟨_,rfl,⟨⟨_,hW⟩,rfl⟩,?_⟩;simp only[Act.put,pjE];refine qta 2 (some 37) (.int .i64 OX) 49 (by kernel_rfl) (fun u _=>by kernel_rfl) ⟨⟨_,hW⟩,rfl⟩ ?_;simp only[Act.put,pjE];refine cla 4 (some 39) 13 #[.slice adx px.length kx] 48 (by kernel_rfl) ?_;refine(hsx _ (hAx.below hW)).mono ?_;rintro e w9 ⟨rfl,hb9⟩;replace hW:=hW.trans (hb9.mono hW.size);clear hb9;refine⟨_,rfl,⟨⟨_,hW⟩,rfl⟩,?_⟩;simp only[Act.put,pjE];refine qta 5 (some 40) (.int .i64 OX) 47 (by kernel_rfl) (fun u _=>by kernel_rfl) ⟨⟨_,hW⟩,rfl⟩ ?_;simp only[Act.put,pjE];refine sgr [(6,3),(11,1)] 43 (by kernel_rfl) ⟨⟨_,hW⟩,rfl⟩ ?_;simp only[pkE];repeat go_big_quiet_step (fail)
  refine wpQuiet_nil ?_;refine cla 9 (some 44) 12 #[.slice adx px.length kx] 42 (by kernel_rfl) ?_;refine(hdx _ (hG.below hW).r (hAx.below hW)).mono ?_;rintro e w9 ⟨rfl,hb9⟩;replace hW:=hW.trans (hb9.mono hW.size);clear hb9;refine⟨_,rfl,⟨⟨_,hW⟩,rfl⟩,?_⟩;simp only[Act.put,pjE];refine qta 10 (some 45) (.int .i64 VX) 41 (by kernel_rfl) (fun u _=>by kernel_rfl) ⟨⟨_,hW⟩,rfl⟩ ?_;simp only[Act.put,pjE];refine cla 12 (some 47) 13 #[.slice adx px.length kx] 40 (by kernel_rfl) ?_;refine(hsx _ (hAx.below hW)).mono ?_;rintro e w9 ⟨rfl,hb9⟩;replace hW:=hW.trans (hb9.mono hW.size);clear hb9;refine⟨_,rfl,⟨⟨_,hW⟩,rfl⟩,?_⟩;simp only[Act.put,pjE];refine qta 13 (some 48) (.int .i64 VX) 39 (by kernel_rfl) (fun u _=>by kernel_rfl) ⟨⟨_,hW⟩,rfl⟩ ?_;simp only[Act.put,pjE];refine sgr [(14,6)] 33 (by kernel_rfl) ⟨⟨_,hW⟩,rfl⟩ ?_;simp only[pkE];repeat go_big_quiet_step (fail)
  refine wpQuiet_nil ?_;refine cla 20 (some 55) 14 #[.slice ady py.length ky] 32 (by kernel_rfl) ?_;refine(hsy _ (hAy.below hW)).mono ?_;rintro e w9 ⟨v5,q5,rfl,e5,o5,n5,g5,hb9⟩;replace hW:=hW.trans (hb9.mono hW.size);clear n5 g5 e5;obtain⟨ad5,k5,rfl⟩:=o5.shape;clear o5;clear hb9;refine⟨_,rfl,⟨⟨_,hW⟩,rfl⟩,?_⟩;simp only[Act.put,pjE];refine qta 21 (some 56) (.int .i64 CE) 31 (by kernel_rfl) (fun u _=>by kernel_rfl) ⟨⟨_,hW⟩,rfl⟩ ?_;simp only[Act.put,pjE];refine sgr [(22,9)] 22 (by kernel_rfl) ⟨⟨_,hW⟩,rfl⟩ ?_;simp only[pkE];repeat go_big_quiet_step (fail)
  refine wpQuiet_nil ?_;refine ska 31 (some 66) 21 (by kernel_rfl) ⟨⟨_,hW⟩,rfl⟩ ?_;simp only[Act.put,pjE];refine sgr [(32,4),(37,1)] 16 (by kernel_rfl) ⟨⟨_,hW⟩,rfl⟩ ?_;simp only[pkE];repeat go_big_quiet_step (fail)
  refine wpQuiet_nil ?_;refine ska 36 (some 71) 15 (by kernel_rfl) ⟨⟨_,hW⟩,rfl⟩ ?_;simp only[Act.put,pjE];refine ska 38 (some 73) 14 (by kernel_rfl) ⟨⟨_,hW⟩,rfl⟩ ?_
 rotate_left
 all_goals
  simp only[Act.put,pjE];refine sgr [(39,8),(48,2)] 4 (by kernel_rfl) ⟨⟨_,hW⟩,rfl⟩ ?_;simp only[pkE];repeat go_big_quiet_step (fail)
  refine wpQuiet_nil ?_;refine cla 47 (some 82) 16 #[.slice ada qa.length ka,.slice adb qb.length kb] 3 (by kernel_rfl) ?_;refine(hip _ (hAa.below hW) (hOb.below hW)).mono ?_;rintro e w9 ⟨rfl,hb9⟩;replace hW:=hW.trans (hb9.mono hW.size);clear hb9;refine⟨_,rfl,⟨⟨_,hW⟩,rfl⟩,?_⟩;simp only[Act.put,pjE];refine cla 50 (some 85) 17 #[.slice ada qa.length ka,.slice adb qb.length kb] 2 (by kernel_rfl) ?_;refine(hsp _ (hAa.below hW) (hOb.below hW)).mono ?_;rintro e w9 ⟨rfl,hb9⟩;replace hW:=hW.trans (hb9.mono hW.size);clear hb9;refine⟨_,rfl,⟨⟨_,hW⟩,rfl⟩,?_⟩;simp only[Act.put,pjE];refine sgr [(51,2)] 0 (by kernel_rfl) ⟨⟨_,hW⟩,rfl⟩ ?_;simp only[pkE];repeat go_big_quiet_step (fail)
  refine wpQuiet_nil ?_;refine z0n (by kernel_rfl) ?_;replace D0:=D0.below hW;replace b0:=b0.trans (hW.mono b0.size);replace hG:=hG.below hW;replace hAl:=hAl.below hW;replace hAd:=hAd.below hW;clear y0 y1 hnn hW hdx hsx hsy hoe hip hsp E0 hE hAx hAy hAe hAa hOb n1 n2 n3 n4
  rename World=>X2
  have z0:=D0.cell 0 _ rfl;by_cases hC:CD=0
  ·obtain⟨hc0,hc1,hc2,hc3,hc4⟩:=HDF.out hC;subst hC;have hdl:=fun w hG h=>z0S (.slice adl ps.length kl) ps w hG h hll
   rw[hc0]at hdl;have hda:=fun w hG h=>z1n (.slice adl ps.length kl) ps (diV (ps.map InstQ.e)) w hG h cP hll
   rw[hc1]at hda;have HTN:Hid (∀t1:List TxnQ,t1.map TxnQ.e=dfT (ps.map InstQ.e) (diV (ps.map InstQ.e))→t1.length+nmL TxnQ.n t1≤1048576):=fun t1 e1=>z9R e1 hll
   have HPR:Hid (preT (dfT (ps.map InstQ.e) n) (dfT (ps.map InstQ.e) (diV (ps.map InstQ.e)))=true):=hc2;have hlf:=fun w h=>z20 (.slice add td.length kd) td w h hld
   rw[HD.out,hc3]at hlf;have HDIF:Hid (Dif (td.map TxnQ.e)):=by rw[HD.out];exact hc4
   clear HDF hc0 hc1 hc2 hc3 hc4 hol hot;generalize dfT (ps.map InstQ.e) n=DT at*;generalize dfT (ps.map InstQ.e) (diV (ps.map InstQ.e))=DA at*;generalize diV (ps.map InstQ.e)=VL at*
   go_wp2_with fail
   refine(hdl X2 hG.r hAl).mono ?_;rintro e w7 ⟨rfl,hb⟩;replace D0:=D0.below hb;replace hAl:=hAl.below hb;replace hAd:=hAd.below hb;replace b0:=b0.trans (hb.mono b0.size);replace hG:=hG.below hb;clear hb hdl z0;have hf7:=q0E 0 VL w7
   go_wp2_with fail
   clear hf7;refine(hda w7 hG.r hAl).mono ?_;rintro e w8 ⟨vt,ta,rfl,et,hOt,nt,gt,hb⟩;have HT:Hid (ta.map TxnQ.e=DA):=et;have hlt:ta.length+nmL TxnQ.n ta≤1048576:=HTN.out ta et;obtain⟨adt,kt,rfl⟩:=hOt.shape;replace D0:=D0.below hb;replace hAl:=hAl.below hb;replace hAd:=hAd.below hb;replace b0:=b0.trans (hb.mono b0.size);replace hG:=hG.below hb;clear hb hda et nt gt HTN;have hb:Below w8.heap.size w8 (w8.alloc (.cells #[.int .i64 0,.slice adt ta.length kt] 29)):=by go_grown
   have T0:=Blk.new w8 29 #[.int .i64 0,.slice adt ta.length kt];replace D0:=D0.below hb;replace hAl:=hAl.below hb;replace hAd:=hAd.below hb;replace hOt:=hOt.below hb;replace b0:=b0.trans (hb.mono b0.size);clear hb hG;have hltd:(td.length:Int)≤1048576:=by omega
   have hltd':td.length≤1048576:=by omega
   go_wp2
   generalize w8.heap.size=gt at*;generalize w8.alloc (.cells #[.int .i64 0,.slice adt ta.length kt] 29)=X3 at*;go_loopw[12] (fun j wr=>∃k:Nat,k≤td.length∧j=.int .i64 k∧Below X3.heap.size X3 wr) (fun j _=>td.length-(intOf j).toNat)
   case atStart=>exact⟨0,Nat.zero_le _,rfl,Below.refl _ _⟩
   case round=>
    obtain⟨i,hi,rfl,hb⟩:=hrel;have D1:=D0.below hb;have d1:=D1.cell 1 _ rfl;by_cases hlti:i<td.length
    ·have hii:(i:Int)<(td.length:Int):=by omega
     go_wp2
     clear d1;go_loopw[13] (fun j wx=>∃k:Nat,k≤i∧j=.int .i64 k∧Below X3.heap.size X3 wx) (fun j _=>i-(intOf j).toNat)
     case atStart=>exact⟨0,Nat.zero_le _,rfl,hb⟩
     case round=>
      clear D1 hb;obtain⟨k,hk,rfl,hb⟩:=hrel;by_cases hltk:k<i
      ·have hki:(k:Int)<(i:Int):=by omega
       have hkd:(k:Int)<(td.length:Int):=by omega
       have D2:=D0.below hb;obtain⟨bb,off,rfl,hci0,hci1,hci2,hck0,hck1,hck2⟩:=at2 (hAd.below hb) i k hlti (by omega);have hst:=z9S HDIF.out k i hltk (by simpa using hlti);rw[z2W td k (by omega),z2W td i hlti]at hst;dsimp only[TxnQ.e,stF]at hst;generalize td[i].i=ii at*;generalize td[i].s=is at*;generalize td[i].q=iq at*;generalize td[k].i=ki at*;generalize td[k].s=ks at*;generalize td[k].q=kq at*;simp only[Bool.or_eq_false_iff]at hst;have g1:(ii==ki)=false:=by
        have:=hst.1;simp only[beq_eq_false_iff_ne]at this⊢;exact fun h=>this h.symm
       have HST:Hid (((ks==is) && (kq==iq))=false):=hst.2;clear hst;have hc0:=z0P hci0;have hc1:=z0P hci1;have hc2:=z0P hci2;have he0:=z0P hck0;have he1:=z0P hck1;have he2:=z0P hck2;have y1:=D2.lat 1 _ rfl;clear hci0 hci1 hci2 hck0 hck1 hck2;have hW:Below wr.heap.size wr wr.drew:=(Below.refl _ _).drew;have hnn:Nonempty (Lat wr):=⟨⟨wr,Below.refl _ _⟩⟩
       by_cases hs:is=ks
       ·have g2:(is==ks)=true:=by simpa using hs
        have g3:(iq==kq)=false:=by
         have:=HST.out;rw[show(ks==is)=true by simpa using hs.symm,Bool.true_and]at this;simp only[beq_eq_false_iff_ne]at this⊢;exact fun h=>this h.symm
        clear HST hs
        go_wp2_with fail
        refine z0i (S:=fun w'=>∃u:Lat wr,w'=u.val) (by kernel_rfl) ?_;refine sgr [(0,43)] 0 (by kernel_rfl) ⟨⟨_,hW⟩,rfl⟩ ?_;simp only[pkE];repeat go_big_quiet_step (fail)
        refine wpQuiet_nil ?_;refine z0n (by kernel_rfl) ?_;replace hb:=hb.trans (hW.mono hb.size);clear hc0 hc1 hc2 he0 he1 he2 y1 hW hnn D2
        go_wp2
        go_roundw
        case rel=>exact⟨k+1,by omega,by go_num,hb⟩
        case measure=>simp[intOf];omega
       ·have g2:(is==ks)=false:=by simpa using hs
        clear HST hs
        go_wp2_with fail
        refine z0i (S:=fun w'=>∃u:Lat wr,w'=u.val) (by kernel_rfl) ?_;refine sgr [(0,43)] 0 (by kernel_rfl) ⟨⟨_,hW⟩,rfl⟩ ?_;simp only[pkE];repeat go_big_quiet_step (fail)
        refine wpQuiet_nil ?_;refine z0n (by kernel_rfl) ?_;replace hb:=hb.trans (hW.mono hb.size);clear hc0 hc1 hc2 he0 he1 he2 y1 hW hnn D2
        go_wp2
        go_roundw
        case rel=>exact⟨k+1,by omega,by go_num,hb⟩
        case measure=>simp[intOf];omega
      ·have hki:¬(k:Int)<(i:Int):=by omega
       go_wp2
       go_roundw
       case rel=>exact⟨i+1,by omega,by go_num,hb⟩
       case measure=>simp[intOf];omega
    ·have hii:¬(i:Int)<(td.length:Int):=by omega
     go_wp2_with fail
     clear d1;have T1:=T0.below hb;have hAl':=hAl.below hb;have hAd':=hAd.below hb;have hOt':=hOt.below hb;have y1:=D1.lat 1 _ rfl;have x0:=T1.lat 0 _ rfl;have x1:=T1.lat 1 _ rfl;have hW:Below wr.heap.size wr wr.drew:=(Below.refl _ _).drew;have hnn:Nonempty (Lat wr):=⟨⟨wr,Below.refl _ _⟩⟩
     refine z0i (S:=fun w'=>∃u:Lat wr,w'=u.val) (by kernel_rfl) ?_;refine sgr [(0,8)] 18 (by kernel_rfl) ⟨⟨_,hW⟩,rfl⟩ ?_;simp only[pkE];repeat go_big_quiet_step (fail)
     refine wpQuiet_nil ?_;refine cla 8 (some 173) 16 #[.slice add td.length kd,.slice adt ta.length kt] 17 (by kernel_rfl) ?_;refine(pre7 _ _ td ta HD.out HT.out HPR.out _ (hAd'.below hW) (hOt'.below hW) hld hlt).mono ?_;rintro e w9 ⟨rfl,hb9⟩;replace hW:=hW.trans (hb9.mono hW.size);clear hb9;refine⟨_,rfl,⟨⟨_,hW⟩,rfl⟩,?_⟩;simp only[Act.put,pjE];refine sgr [(9,4)] 13 (by kernel_rfl) ⟨⟨_,hW⟩,rfl⟩ ?_;simp only[pkE];repeat go_big_quiet_step (fail)
     refine wpQuiet_nil ?_;refine cla 13 (some 178) 20 #[.slice add td.length kd] 12 (by kernel_rfl) ?_;refine(hlf _ (hAd'.below hW)).mono ?_;rintro e w9 ⟨rfl,hb9⟩;replace hW:=hW.trans (hb9.mono hW.size);clear hb9;refine⟨_,rfl,⟨⟨_,hW⟩,rfl⟩,?_⟩;simp only[Act.put,pjE];refine sgr [(14,7)] 5 (by kernel_rfl) ⟨⟨_,hW⟩,rfl⟩ ?_;simp only[pkE];repeat go_big_quiet_step (fail)
     refine wpQuiet_nil ?_;refine cla 21 (some 186) 18 #[.slice adl ps.length kl,.int .i64 n] 4 (by kernel_rfl) ?_;refine(hsl _ (hAl'.below hW)).mono ?_;rintro e w9 ⟨v5,t5,rfl,e5,o5,n5,g5,hb9⟩;replace hW:=hW.trans (hb9.mono hW.size);clear n5 g5;obtain⟨ad5,k5,rfl⟩:=o5.shape;clear hb9;refine⟨_,rfl,⟨⟨_,hW⟩,rfl⟩,?_⟩;simp only[Act.put,pjE];refine qta 22 (some 187) (.slice ad5 t5.length k5) 3 (by kernel_rfl) (fun u _=>by kernel_rfl) ⟨⟨_,hW⟩,rfl⟩ ?_;simp only[Act.put,pjE];refine cla 23 (some 188) 21 #[.slice add td.length kd,.slice ad5 t5.length k5] 2 (by kernel_rfl) ?_;refine(q0Y _ _ td t5 HD.out e5 (z3h _) _ (hAd'.below hW) o5.at hld (HS5.out t5 e5)).mono ?_;rintro e w9 ⟨rfl,hb9⟩;replace hW:=hW.trans (hb9.mono hW.size);clear o5 e5;clear hb9;refine⟨_,rfl,⟨⟨_,hW⟩,rfl⟩,?_⟩;simp only[Act.put,pjE];refine sgr [(24,2)] 0 (by kernel_rfl) ⟨⟨_,hW⟩,rfl⟩ ?_;simp only[pkE];repeat go_big_quiet_step (fail)
     refine wpQuiet_nil ?_;refine z0n (by kernel_rfl) ?_;replace hb:=hb.trans (hW.mono hb.size);replace b0:=b0.trans (hb.mono b0.size)
     go_wp2
     go_ret;exact⟨rfl,b0⟩
  ·have hC':(CD !=0)=true:=by simpa using hC
   have e1:(CD==CD)=true:=by simp
   generalize ordF (ps.map InstQ.e)=OL at*;have e2:(OL==OL)=true:=by simp
   go_wp2_with fail
   clear z0;have z0:=D0.lat 0 _ rfl;have hW:Below X2.heap.size X2 X2.drew:=(Below.refl _ _).drew;have hnn:Nonempty (Lat X2):=⟨⟨X2,Below.refl _ _⟩⟩
   refine z0i (S:=fun w'=>∃u:Lat X2,w'=u.val) (by kernel_rfl) ?_;refine sgr [(0,2),(4,2)] 11 (by kernel_rfl) ⟨⟨_,hW⟩,rfl⟩ ?_;simp only[pkE];repeat go_big_quiet_step (fail)
   refine wpQuiet_nil ?_;refine cla 2 (some 93) 18 #[.slice adl ps.length kl,.int .i64 n] 10 (by kernel_rfl) ?_;refine(hsl _ (hAl.below hW)).mono ?_;rintro e w9 ⟨v5,t5,rfl,e5,o5,n5,g5,hb9⟩;replace hW:=hW.trans (hb9.mono hW.size);clear n5 g5;obtain⟨ad5,k5,rfl⟩:=o5.shape;clear o5 e5;clear hb9;refine⟨_,rfl,⟨⟨_,hW⟩,rfl⟩,?_⟩;simp only[Act.put,pjE];refine qta 3 (some 94) (.int .i64 CD) 9 (by kernel_rfl) (fun u _=>by kernel_rfl) ⟨⟨_,hW⟩,rfl⟩ ?_;simp only[Act.put,pjE];refine sgr [(6,3),(10,1)] 5 (by kernel_rfl) ⟨⟨_,hW⟩,rfl⟩ ?_;simp only[pkE];repeat go_big_quiet_step (fail)
   refine wpQuiet_nil ?_;refine cla 9 (some 100) 15 #[.slice adl ps.length kl] 4 (by kernel_rfl) ?_;refine(hol _ (hG.below hW).r (hAl.below hW)).mono ?_;rintro e w9 ⟨rfl,hb9⟩;replace hW:=hW.trans (hb9.mono hW.size);clear hb9;refine⟨_,rfl,⟨⟨_,hW⟩,rfl⟩,?_⟩;simp only[Act.put,pjE];refine cla 11 (some 102) 19 #[.slice adl ps.length kl] 3 (by kernel_rfl) ?_;refine(hot _ (hAl.below hW)).mono ?_;rintro e w9 ⟨rfl,hb9⟩;replace hW:=hW.trans (hb9.mono hW.size);clear hb9;refine⟨_,rfl,⟨⟨_,hW⟩,rfl⟩,?_⟩;simp only[Act.put,pjE];refine sgr [(12,3)] 0 (by kernel_rfl) ⟨⟨_,hW⟩,rfl⟩ ?_;simp only[pkE];repeat go_big_quiet_step (fail)
   refine wpQuiet_nil ?_;refine z0n (by kernel_rfl) ?_;replace b0:=b0.trans (hW.mono b0.size)
   go_wp2
   go_ret;exact⟨rfl,b0⟩
section
open Go.ChangeShapes Go.WideShapes
theorem gOpn : Tryz.prog.globalNamed "loop.example/g00631/impl.openRow" = some 0 := by kernel_rfl
theorem tOpn:(Tryz.prog.globals[0]?).map (·.type)=some 86:=by kernel_rfl
theorem z69 {W : World} (h : laidMetH Tryz.prog [("loop.example/g00631/impl.rules", Rows.laid_loop_example_g00631_impl_rules), ("loop.example/g00631/impl.openRow", Rows.laid_loop_example_g00631_impl_openRow)] W) : Rul W := by
 rw[MakeChecks.laidMetH_plain _ _ _ (by kernel_rfl)]at h;obtain⟨g,t,cs,fuel,p,hg,ht,hvar,hd⟩:=Lib.laidMet.reads h (List.mem_cons_self ..);obtain rfl:=Option.some.inj (gRul.symm.trans hg);obtain rfl:=Option.some.inj (tRul.symm.trans ht);unfold Rows.laid_loop_example_g00631_impl_rules at hd;have e:∀i,i<5→∃fuel' d q,_∧_:=fun i hi=>Lib.array_elem Tryz.underlying227 hd i hi
 rw[q0p]at e;obtain⟨f0,d0,q0,r0,s0⟩:=e 0 (by omega);obtain⟨f1,d1,q1,r1,s1⟩:=e 1 (by omega);obtain⟨f2,d2,q2,r2,s2⟩:=e 2 (by omega);obtain⟨f3,d3,q3,r3,s3⟩:=e 3 (by omega);obtain⟨f4,d4,q4,r4,s4⟩:=e 4 (by omega);simp only[List.getElem?_cons_zero,List.getElem?_cons_succ,Option.some.injEq]at r0 r1 r2 r3 r4;subst r0 r1 r2 r3 r4;have t0:=z1A s0;have t1:=z1A s1;have t2:=z1A s2;have t3:=z1A s3;have t4:=z1A s4;have hall:cs.toList.take 35=q0I:=by
  rw[show 35=0*7+7+7+7+7+7 from rfl,List.take_add,List.take_add,List.take_add,List.take_add];rw[show 0*7+7+7+7+7=4*7 from rfl,show 0*7+7+7+7=3*7 from rfl,show 0*7+7+7=2*7 from rfl,show 0*7+7=1*7 from rfl,t1,t2,t3,t4];have t0':List.take (1*7) cs.toList=_:=t0;rw[t0'];rfl
 intro i v hv;have hi:i<35:=by
  have:=(List.getElem?_eq_some_iff.1 hv).1;simpa[q0I]using this
 rw[World.var?_cell hg hvar i,←Array.getElem?_toList];rw[←hall,List.getElem?_take,if_pos hi]at hv;exact hv
theorem z7a {W : World} (h : laidMetH Tryz.prog [("loop.example/g00631/impl.rules", Rows.laid_loop_example_g00631_impl_rules), ("loop.example/g00631/impl.openRow", Rows.laid_loop_example_g00631_impl_openRow)] W) : Opn W := by
 rw[MakeChecks.laidMetH_plain _ _ _ (by kernel_rfl)]at h;obtain⟨g,t,cs,fuel,p,hg,ht,hvar,hd⟩:=Lib.laidMet.reads h (List.mem_cons_of_mem _ (List.mem_singleton.2 rfl));obtain rfl:=Option.some.inj (gOpn.symm.trans hg);obtain rfl:=Option.some.inj (tOpn.symm.trans ht);unfold Rows.laid_loop_example_g00631_impl_openRow at hd;intro j hj;obtain⟨f0,d0,q0,r0,s0⟩:=Lib.array_elem Tryz.underlying86 hd j hj;rw[cI]at s0;have hd0:d0=.lit (.int .i64 3):=by
  match j,hj with
  |0,_=>simpa using r0.symm
  |1,_=>simpa using r0.symm
  |2,_=>simpa using r0.symm
 subst hd0;obtain⟨n0,e0,g0,_⟩:=DataW.trod_int Tryz.underlying2 s0;have hn:n0=3:=by have:=g0.symm;simp at this;exact this.1
 subst hn;rw[World.var?_cell hg hvar j,←Array.getElem?_toList];have:=congrArg (fun l=>l[0]?) e0;simpa using this
theorem z9T {W : World} (h : laidMetH Tryz.prog [("loop.example/g00631/impl.rules", Rows.laid_loop_example_g00631_impl_rules), ("loop.example/g00631/impl.openRow", Rows.laid_loop_example_g00631_impl_openRow)] W) : RulO W := ⟨z69 h, z7a h⟩
end
end Go.Proofs.YtfpponhjhbfbeaaGreatDoor

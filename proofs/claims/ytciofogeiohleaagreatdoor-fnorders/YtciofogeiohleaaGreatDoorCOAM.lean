/- Texts joined,with what the laws reach alone. -/
import Derived.Test.YtciofogeiohleaaGreatDoorCOAJ
set_option linter.unusedVariables false
set_option linter.unusedSimpArgs false
set_option maxRecDepth 100000
set_option maxHeartbeats 8000000
namespace Go.Proofs.YtciofogeiohleaaGreatDoor
open Go.RowKit Go.BigFrame
theorem z3h(B b T:Nat)(w:World)(hS:Src B w b T)(hT:T≤500000):
  Calls Tryz.prog 59 #[.pointer (some ⟨b,0,none⟩)] w fun e w'=>∃q:InstQ,e=.returned (.agg #[.bool q.has,q.vb,q.vr,q.vd])∧q.n≤1000∧instK.own w' q∧(instK.foot q).Nodup∧(∀k∈instK.foot q,w.heap.size≤k)∧Src B w' b (T+2600)∧w.grownBy w' (some b):=by
 have bH:=hS.lt;have aT:Below w.heap.size w (w.alloc (.cells #[.bool false,.slice none 0 0,.slice none 0 0,.slice none 0 0] 49)):=by go_grown
 have R0:=Blk.new w 49 #[.bool false,.slice none 0 0,.slice none 0 0,.slice none 0 0];have hg:Out [b] w (w.alloc (.cells #[.bool false,.slice none 0 0,.slice none 0 0,.slice none 0 0] 49)):=Out.of_below aT;replace hS:=hS.below aT;clear aT;go_enter Tryz.func59,Tryz.ntmps59
 go_wp2_with fail
 generalize w.alloc (.cells #[.bool false,.slice none 0 0,.slice none 0 0,.slice none 0 0] 49)=W at*;refine(z2j B b T 40 W hS (by omega) (by omega)).mono ?_;rintro e x1 ⟨q,rfl,hi,oq,nq,gq,ay,aC⟩;have hW:=R0.lt;have hU:Out [b] W x1:=Out.of_grown aC;replace R0:=R0.outs hU (fun hk=>by simp only[List.mem_singleton]at hk;omega);replace hS:=ay;replace hg:=hg.trans hU;have hm:=instK.own_lt oq;have ap:=z0w hi;obtain⟨aQ,⟨bs,bt⟩,aA,_⟩:=z2r hi;have aX:q.e.rounds.length=q.rounds.length:=List.length_map _;have aZ:∀m (h:m<q.rounds.length),(q.rounds[m]).rep.length=3∧(q.rounds[m]).pro.length=3:=fun m h=>by
  have h8:=z1o aQ m (by omega);have h9:q.e.rounds.getD m rnd0=RoundQ.e q.rounds[m]:=z0X q.rounds m h;rw[h9]at h8;exact h8
 replace aA:q.dec.length=3:=aA;clear aQ ay aC hU hi;obtain⟨ch,cb,s,cr,A,cd,d⟩:=q;obtain⟨c1,c4,rfl⟩:∃a c,cb=.slice a s.length c:=oq.1.shape;obtain⟨c2,c5,rfl⟩:∃a c,cr=.slice a A.length c:=oq.2.1.shape;obtain⟨c3,c6,rfl⟩:∃a c,cd=.slice a d.length c:=oq.2.2.shape;dsimp only at aZ aX aA;have aw:Hid (d.length=3):=aA;clear aA;rw[aX]at bs bt;clear aX;have aj:Below x1.heap.size x1 (x1.alloc (.cells #[.bool ch,.slice c1 s.length c4,.slice c2 A.length c5,.slice c3 d.length c6] 49)):=by go_grown
 have Bx:=Blk.new x1 49 #[.bool ch,.slice c1 s.length c4,.slice c2 A.length c5,.slice c3 d.length c6];have bG:w.heap.size<x1.heap.size:=R0.lt;replace R0:=R0.below aj;replace hS:=hS.below aj;replace hg:=hg.trans (Out.of_below aj);replace oq:=instK.own_out (F:=[]) oq (Out.of_below aj) (fun _ _=>by simp);have J:∀k∈instK.foot (⟨ch,.slice c1 s.length c4,s,.slice c2 A.length c5,A,.slice c3 d.length c6,d⟩:InstQ),w.heap.size<k∧k≠x1.heap.size:=fun k hk=>⟨by have:=gq k hk;omega,by have:=hm k hk;omega⟩
 clear aj gq hm hW;obtain⟨m,bv⟩:∃m,A.length=m+1:=⟨A.length-1,by omega⟩
 have D:m<A.length:=by omega
 rw[bv]at oq nq J Bx ap R0 hS hg⊢
 go_wp2_with fail
 generalize bq:x1.heap.size=g at*;generalize x1.alloc (.cells #[.bool ch,.slice c1 s.length c4,.slice c2 (m+1) c5,.slice c3 d.length c6] 49)=X1 at*;clear bq;refine(z0m B b (T+2500) 12 X1 hS (by omega) (by omega)).mono ?_;rintro e X ⟨sw,rfl,aY,ay,aC⟩;have hU:Out [b] X1 X:=Out.of_grown aC;replace R0:=R0.outs hU (fun hk=>by simp only[List.mem_singleton]at hk;omega);replace Bx:=Bx.outs hU (fun hk=>by simp only[List.mem_singleton]at hk;omega);replace oq:=instK.own_out oq hU (fun k hk E=>by simp only[List.mem_singleton]at E;have:=J k hk;omega);replace hS:=ay;replace hg:=hg.trans hU;obtain⟨sn,rfl⟩:=Int.eq_ofNat_of_zero_le aY.1;have bI:sn<12:=by have:=aY.2.1 (by omega);omega
 have av:True:=trivial;clear aY ay aC hU;have h6:sn=0∨sn=1∨sn=2∨sn=3∨sn=4∨5≤sn:=by omega
 rcases h6 with rfl|rfl|rfl|rfl|rfl|bo
 ·skip;obtain⟨g5,rfl⟩:=oq.2.2.blkOf (by show 0<d.length;have:=aw.out;omega);have aB:g5∈instK.foot (⟨ch,.slice c1 s.length c4,s,.slice c2 (m+1) c5,A,.slice (some ⟨g5,0,none⟩) d.length c6,d⟩:InstQ):=List.mem_append_right _ (List.mem_append_right _ (by show g5∈intK.fp (.slice (some ⟨g5,0,none⟩) d.length c6) d;rw[z1j];simp));have aK:=J g5 aB;have pz:=z0g (F:=[b,g5]) (Bx.cell 3 _ rfl) (by simp only[List.mem_cons,List.not_mem_nil,or_false];omega);have C:∀k∈[b],k∈[b,g5]:=fun k hk=>by simp only[List.mem_singleton]at hk;simp[hk]
  go_wp2_with fail
  clear av;refine z0T [some 15,some 16,some 17,some 18,some 19,some 20,some 21,some 22] (fun vs w'=>∃ (r:Nat) (v:Int) (gp:Nat),vs=[.pointer (some ⟨g,3,none⟩),.slice (some ⟨g5,0,none⟩) d.length c6,.pointer (some ⟨b,0,none⟩),.int .i64 (r:Int),.pointer (some ⟨b,0,none⟩),.slice (some ⟨gp,0,none⟩) 3 3,.int .i64 v,.pointer (some ⟨g5,r,none⟩)]∧b<gp∧r<3∧instK.own w' (InstQ.setD (⟨ch,.slice c1 s.length c4,s,.slice c2 (m+1) c5,A,.slice (some ⟨g5,0,none⟩) d.length c6,d⟩:InstQ) r v)∧instK.foot (InstQ.setD (⟨ch,.slice c1 s.length c4,s,.slice c2 (m+1) c5,A,.slice (some ⟨g5,0,none⟩) d.length c6,d⟩:InstQ) r v)=instK.foot (⟨ch,.slice c1 s.length c4,s,.slice c2 (m+1) c5,A,.slice (some ⟨g5,0,none⟩) d.length c6,d⟩:InstQ)∧Src B w' b (T+2503)∧Out [b,g5] X w') ?_ ?_
  ·have sx:Src B X.drew b (T+2501):=hS.below ((Below.refl _ _).drew);have ux:Out [b] X X.drew:=Out.of_below ((Below.refl _ _).drew);have aI:Nonempty (LatO [b,g5] X):=⟨⟨X,Out.refl _ _⟩⟩
   refine z0b (S:=fun w'=>∃u:LatO [b,g5] X,w'=u.val) (by kernel_rfl) ?_;refine sgr [(0,3),(4,1)] 5 (by kernel_rfl) ⟨⟨_,ux.mono C⟩,rfl⟩ ?_;simp only[pkE];repeat go_big_quiet_step (fail)
   refine wpQuiet_nil ?_;generalize X.drew=wd at sx ux⊢;refine twa 3 5 4 (by kernel_rfl) ?_ ?_
   focus
    skip;refine opc 3 (some 18) 37 #[.pointer (some ⟨b,0,none⟩),.int .i64 3] (by kernel_rfl) ?_;refine(z0m B b (T+2501) 3 _ sx (by omega) (by omega)).mono ?_;rintro e x7 ⟨ri,rfl,N,I,gn⟩;obtain⟨r,rfl⟩:=Int.eq_ofNat_of_zero_le N.1;have ah:r<3:=by have:=N.2.1 (by omega);omega
    replace sx:=I;have un:Out [b] _ _:=Out.of_grown gn;replace ux:=ux.trans un;clear un gn I N;refine⟨_,rfl,⟨⟨_,ux.mono C⟩,rfl⟩,?_⟩;simp only[Act.put,pgE,pjE];refine ona 5 3 rfl (by kernel_rfl) ?_;have U:=World.ownsRow_lit (e:=2) (size:=1) x7 #[.int .i64 0,.int .i64 1,.int .i64 2] 3 (Nat.le_refl _) (by decide) rfl;have ao:b<x7.heap.size:=sx.lt.2;have M:Below x7.heap.size x7 (x7.alloc (.cells #[.int .i64 0,.int .i64 1,.int .i64 2] 2)):=by go_grown
    replace sx:=sx.below M;replace ux:=ux.trans (Out.of_below M);clear M
    go_wp2
    refine ThenGo.to ⟨⟨⟨_,ux.mono C⟩,rfl⟩,?_⟩;generalize ag:x7.heap.size=gp at*;generalize x7.alloc (.cells #[.int .i64 0,.int .i64 1,.int .i64 2] 2)=Y at*;clear ag
   rotate_left
   focus
    skip;refine z4R 5 _ rfl ?_;have U:=World.ownsRow_lit (e:=2) (size:=1) wd #[.int .i64 0,.int .i64 1,.int .i64 2] 3 (Nat.le_refl _) (by decide) rfl;have ao:b<wd.heap.size:=sx.lt.2;have M:Below wd.heap.size wd (wd.alloc (.cells #[.int .i64 0,.int .i64 1,.int .i64 2] 2)):=by go_grown
    replace sx:=sx.below M;replace ux:=ux.trans (Out.of_below M);clear M
    go_wp2
    refine ThenGo.to ⟨⟨⟨_,ux.mono C⟩,rfl⟩,?_⟩;generalize ag:wd.heap.size=gp at*;generalize wd.alloc (.cells #[.int .i64 0,.int .i64 1,.int .i64 2] 2)=Y at*;refine cla 3 (some 18) 37 #[.pointer (some ⟨b,0,none⟩),.int .i64 3] 3 (by kernel_rfl) ?_;refine(z0m B b (T+2501) 3 _ sx (by omega) (by omega)).mono ?_;rintro e x7 ⟨ri,rfl,N,I,gn⟩;obtain⟨r,rfl⟩:=Int.eq_ofNat_of_zero_le N.1;have ah:r<3:=by have:=N.2.1 (by omega);omega
    replace sx:=I;have un:Out [b] _ _:=Out.of_grown gn;replace ux:=ux.trans un;replace U:=U.kept gn (Or.inr (by simp[Value.ownBlock];omega));clear un gn I N ag;refine⟨_,rfl,⟨⟨_,ux.mono C⟩,rfl⟩,?_⟩;simp only[Act.put,pgE,pjE]
   rotate_left
   all_goals
    refine cla 6 (some 21) 106 #[.pointer (some ⟨b,0,none⟩),.slice (some ⟨gp,0,none⟩) 3 3] 2 (by kernel_rfl) ?_;refine(z06 B b (T+2502) gp _ [0,1,2] _ sx (by omega) U (by simp) (by simp) (by simp[Value.ownBlock];omega)).mono ?_;rintro e x9 ⟨v,rfl,hv,I,gn⟩;replace sx:=I;have un:Out [b] _ _:=Out.of_grown gn;replace ux:=ux.trans un;clear un gn I U;refine⟨_,rfl,⟨⟨_,ux.mono C⟩,rfl⟩,?_⟩;simp only[Act.put,pgE,pjE];have aO:(r:Int)<3:=by omega
    have aN:(r:Int)<(d.length:Int):=by have:=aw.out;omega
    refine sgr [(7,1)] 1 (by kernel_rfl) ⟨⟨_,ux.mono C⟩,rfl⟩ ?_;simp only[pkE];repeat go_big_quiet_step (fail)
    refine wpQuiet_nil ?_;refine ona 8 0 rfl (by kernel_rfl) ?_;have oz:=instK.own_out oq ux (fun k hk E=>by simp only[List.mem_singleton]at E;have:=J k hk;omega);obtain⟨g',am,V,_,kc,kf,aq,af⟩:=z3R oz nq r (by show r<d.length;have:=aw.out;omega) v;replace V:(Value.slice (some ⟨g5,0,none⟩) d.length c6)=.slice (some ⟨g',0,none⟩) d.length am:=V;simp only[Value.slice.injEq,Option.some.injEq,Addr.mk.injEq,and_true,true_and]at V;obtain⟨rfl,rfl⟩:=V;have sz:=sx.out (Out.setCell x9 g5 r (iv v)) (by simp only[List.mem_singleton];omega) (fun k hk=>by simp only[List.mem_singleton]at hk;omega);have uz:Out [b,g5] X (x9.setCell ⟨g5,r,none⟩ (iv v)):=(ux.mono C).set (by simp);obtain⟨bl,bh⟩:∃z,x9.cell? ⟨g5,r,none⟩=some (iv z):=⟨_,kc⟩
    clear kc
    go_wp2
    refine ThenGo.to ⟨⟨⟨_,uz⟩,rfl⟩,?_⟩;refine z0e (by kernel_rfl) ?_;refine⟨rfl,_,⟨r,v,gp,rfl,ao,ah,aq,af,sz,uz⟩,?_⟩;simp only[z01,Act.put,pgE,pjE];try rfl
  rintro vs X6 ⟨r,v,gp,rfl,_,ah,ow,fe,sr,uX⟩;simp only[z01,Act.put,pjE];have ad:=Bx.outs uX (fun hk=>by simp only[List.mem_cons,List.not_mem_nil,or_false]at hk;omega);have ae:=R0.outs uX (fun hk=>by simp only[List.mem_cons,List.not_mem_nil,or_false]at hk;omega);have O:Out [b] w X6:=⟨uX.os.trans hg.os,uX.tape.trans hg.tape,uX.output.trans hg.output,Nat.le_trans hg.size uX.size,fun k hk aa=>(uX.block k (Nat.lt_of_lt_of_le hk hg.size) (by simp only[List.mem_singleton]at aa;simp only[List.mem_cons,List.not_mem_nil,or_false];omega)).trans (hg.block k hk aa)⟩
  have nd:(instK.foot (InstQ.setD (⟨ch,.slice c1 s.length c4,s,.slice c2 (m+1) c5,A,.slice (some ⟨g5,0,none⟩) d.length c6,d⟩:InstQ) r v)).Nodup:=by rw[fe];exact nq
  have lw:∀k∈instK.foot (InstQ.setD (⟨ch,.slice c1 s.length c4,s,.slice c2 (m+1) c5,A,.slice (some ⟨g5,0,none⟩) d.length c6,d⟩:InstQ) r v),w.heap.size<k∧k≠g:=fun k hk=>by rw[fe]at hk;exact J k hk
  have hn:InstQ.n (InstQ.setD (⟨ch,.slice c1 s.length c4,s,.slice c2 (m+1) c5,A,.slice (some ⟨g5,0,none⟩) d.length c6,d⟩:InstQ) r v)≤1000:=by rw[z0F,z61];show InstE.n ⟨_,_,_,(InstQ.e _).dec.set r v⟩≤1000;unfold InstE.n;rw[List.length_set];exact Nat.le_trans ap (by omega)
  clear Bx R0 hg hS oq nq J uX fe C;have Bx:=ad;have R0:=ae;clear ad ae;have Rr:=R0.row #[.bool ch,.slice c1 s.length c4,.slice c2 (m+1) c5,.slice (some ⟨g5,0,none⟩) d.length c6];have ai:(Tryz.prog.info? 49).map (·.size)=some (#[.bool ch,.slice c1 s.length c4,.slice c2 (m+1) c5,.slice (some ⟨g5,0,none⟩) d.length c6]:Array Value).size:=z0l;have G:=z0f (X6) w.heap.size #[.bool ch,.slice c1 s.length c4,.slice c2 (m+1) c5,.slice (some ⟨g5,0,none⟩) d.length c6];have HZ:Hid (instK.own ((X6).setRow w.heap.size #[.bool ch,.slice c1 s.length c4,.slice c2 (m+1) c5,.slice (some ⟨g5,0,none⟩) d.length c6]) (InstQ.setD (⟨ch,.slice c1 s.length c4,s,.slice c2 (m+1) c5,A,.slice (some ⟨g5,0,none⟩) d.length c6,d⟩:InstQ) r v)∧Src B ((X6).setRow w.heap.size #[.bool ch,.slice c1 s.length c4,.slice c2 (m+1) c5,.slice (some ⟨g5,0,none⟩) d.length c6]) b (T+2600)∧w.grownBy ((X6).setRow w.heap.size #[.bool ch,.slice c1 s.length c4,.slice c2 (m+1) c5,.slice (some ⟨g5,0,none⟩) d.length c6]) (some b)):=by
   refine⟨instK.own_out ow G (fun k hk E=>by simp only[List.mem_singleton]at E;have:=lw k hk;omega),?_,?_⟩
   ·exact(sr.out G (by simp only[List.mem_singleton];omega) (fun k hk=>by simp only[List.mem_singleton]at hk;omega)).mono (by omega)
   ·exact z0k (z0O O) G (fun k hk=>by simp only[List.mem_singleton]at hk;omega)
  have HQ:Hid (InstQ.n (InstQ.setD (⟨ch,.slice c1 s.length c4,s,.slice c2 (m+1) c5,A,.slice (some ⟨g5,0,none⟩) d.length c6,d⟩:InstQ) r v)≤1000∧(instK.foot (InstQ.setD (⟨ch,.slice c1 s.length c4,s,.slice c2 (m+1) c5,A,.slice (some ⟨g5,0,none⟩) d.length c6,d⟩:InstQ) r v)).Nodup∧∀k∈instK.foot (InstQ.setD (⟨ch,.slice c1 s.length c4,s,.slice c2 (m+1) c5,A,.slice (some ⟨g5,0,none⟩) d.length c6,d⟩:InstQ) r v),w.heap.size≤k):=⟨hn,nd,fun k hk=>by have:=lw k hk;omega⟩
  obtain⟨p0,p1,p2,p3⟩:=Bx.cel4;clear ow nd lw hn sr O G
  go_wp2_with (first|(refine z0d (by kernel_rfl) 49 _ _ rfl _ #[.bool ch,.slice c1 s.length c4,.slice c2 (m+1) c5,.slice (some ⟨g5,0,none⟩) d.length c6] rfl rfl 49 _ R0 ai rfl (by simp[Value.oneCell']) ?_))
  obtain⟨q0,q1,q2,q3⟩:=Rr.cel4;exact bodyPost_ret (v:=.agg #[.bool ch,.slice c1 s.length c4,.slice c2 (m+1) c5,.slice (some ⟨g5,0,none⟩) d.length c6]) (by simp[results,Tryz.results59,go_sem,q0,q1,q2,q3]) rfl ⟨(InstQ.setD (⟨ch,.slice c1 s.length c4,s,.slice c2 (m+1) c5,A,.slice (some ⟨g5,0,none⟩) d.length c6,d⟩:InstQ) r v),rfl,HQ.out.1,HZ.out.1,HQ.out.2.1,HQ.out.2.2,HZ.out.2.1,HZ.out.2.2⟩
 ·skip;obtain⟨gr,rfl⟩:=oq.2.1.blkOf (by show 0<List.length A;omega);have al:=(oq.2.1.2 _ (List.getElem_mem D)).1;have ax:(A[m]).rep.length=3:=(aZ m D).1;obtain⟨sa,sc,ab⟩:=al.shape;rw[ab]at al;obtain⟨g5,rfl⟩:=al.blkOf (by omega);rw[ax]at ab;have aB:g5∈instK.foot (⟨ch,.slice c1 s.length c4,s,.slice (some ⟨gr,0,none⟩) (m+1) c5,A,.slice c3 d.length c6,d⟩:InstQ):=List.mem_append_right _ (List.mem_append_left _ (List.mem_append_right _ (List.mem_flatMap.2 ⟨A[m],List.getElem_mem D,List.mem_append_left _ (by rw[ab,z1j];simp)⟩)));have aK:=J g5 aB;have bp:gr≠g5:=by
   intro e;have aV:=(List.nodup_append.1 (List.nodup_append.1 nq).2.1).1;have hx:=(List.nodup_append.1 aV).2.2 gr (by simp[blk,Value.ownBlock]) g5 (List.mem_flatMap.2 ⟨A[m],List.getElem_mem D,List.mem_append_left _ (by rw[ab,z1j];simp)⟩);exact hx e
  have aD:gr∈instK.foot (⟨ch,.slice c1 s.length c4,s,.slice (some ⟨gr,0,none⟩) (m+1) c5,A,.slice c3 d.length c6,d⟩:InstQ):=List.mem_append_right _ (List.mem_append_left _ (List.mem_append_left _ (by simp[blk,Value.ownBlock])));have ba:=J gr aD;have az:=(oq.2.1.cell m D 0 (.slice (some ⟨g5,0,none⟩) 3 sc) (by show([(A[m]).vr,(A[m]).vp]:List Value)[0]?=_;rw[←ab];rfl)).1;have an:X.cell? ⟨gr,m*2,none⟩=some (.slice (some ⟨g5,0,none⟩) 3 sc):=az;have pz:=z0g (F:=[b,g5]) (Bx.cell 2 _ rfl) (by simp only[List.mem_cons,List.not_mem_nil,or_false];omega);have py:=z0g (F:=[b,g5]) an (by simp only[List.mem_cons,List.not_mem_nil,or_false];omega);have bu:(m:Int)<(m:Int)+1:=by omega
  clear az an al;have C:∀k∈[b],k∈[b,g5]:=fun k hk=>by simp only[List.mem_singleton]at hk;simp[hk]
  go_wp2_with fail
  clear av;refine z0T [some 25,some 26,some 27,some 28,some 29,some 30,some 31,some 32,some 33,some 34,some 35,some 36] (fun vs w'=>∃ (r:Nat) (v:Int) (gp:Nat),vs=[.pointer (some ⟨g,2,none⟩),.slice (some ⟨gr,0,none⟩) (m+1) c5,.int .i64 (m:Int),.pointer (some ⟨gr,m*2,none⟩),.pointer (some ⟨gr,m*2,none⟩),.slice (some ⟨g5,0,none⟩) 3 sc,.pointer (some ⟨b,0,none⟩),.int .i64 (r:Int),.pointer (some ⟨b,0,none⟩),.slice (some ⟨gp,0,none⟩) 4 4,.int .i64 v,.pointer (some ⟨g5,r,none⟩)]∧b<gp∧r<3∧instK.own w' (InstQ.setR (⟨ch,.slice c1 s.length c4,s,.slice (some ⟨gr,0,none⟩) (m+1) c5,A,.slice c3 d.length c6,d⟩:InstQ) m r v D)∧instK.foot (InstQ.setR (⟨ch,.slice c1 s.length c4,s,.slice (some ⟨gr,0,none⟩) (m+1) c5,A,.slice c3 d.length c6,d⟩:InstQ) m r v D)=instK.foot (⟨ch,.slice c1 s.length c4,s,.slice (some ⟨gr,0,none⟩) (m+1) c5,A,.slice c3 d.length c6,d⟩:InstQ)∧Src B w' b (T+2503)∧Out [b,g5] X w') ?_ ?_
  ·have sx:Src B X.drew b (T+2501):=hS.below ((Below.refl _ _).drew);have ux:Out [b] X X.drew:=Out.of_below ((Below.refl _ _).drew);have aI:Nonempty (LatO [b,g5] X):=⟨⟨X,Out.refl _ _⟩⟩
   refine z0b (S:=fun w'=>∃u:LatO [b,g5] X,w'=u.val) (by kernel_rfl) ?_;refine sgr [(0,7),(8,1)] 5 (by kernel_rfl) ⟨⟨_,ux.mono C⟩,rfl⟩ ?_;simp only[pkE];repeat go_big_quiet_step (fail)
   refine wpQuiet_nil ?_;generalize X.drew=wd at sx ux⊢;refine twa 7 9 4 (by kernel_rfl) ?_ ?_
   focus
    skip;refine opc 7 (some 32) 37 #[.pointer (some ⟨b,0,none⟩),.int .i64 3] (by kernel_rfl) ?_;refine(z0m B b (T+2501) 3 _ sx (by omega) (by omega)).mono ?_;rintro e x7 ⟨ri,rfl,N,I,gn⟩;obtain⟨r,rfl⟩:=Int.eq_ofNat_of_zero_le N.1;have ah:r<3:=by have:=N.2.1 (by omega);omega
    replace sx:=I;have un:Out [b] _ _:=Out.of_grown gn;replace ux:=ux.trans un;clear un gn I N;refine⟨_,rfl,⟨⟨_,ux.mono C⟩,rfl⟩,?_⟩;simp only[Act.put,pgE,pjE];refine ona 9 3 rfl (by kernel_rfl) ?_;have U:=World.ownsRow_lit (e:=2) (size:=1) x7 #[.int .i64 0,.int .i64 1,.int .i64 3,.int .i64 4] 4 (Nat.le_refl _) (by decide) rfl;have ao:b<x7.heap.size:=sx.lt.2;have M:Below x7.heap.size x7 (x7.alloc (.cells #[.int .i64 0,.int .i64 1,.int .i64 3,.int .i64 4] 2)):=by go_grown
    replace sx:=sx.below M;replace ux:=ux.trans (Out.of_below M);clear M
    go_wp2
    refine ThenGo.to ⟨⟨⟨_,ux.mono C⟩,rfl⟩,?_⟩;generalize ag:x7.heap.size=gp at*;generalize x7.alloc (.cells #[.int .i64 0,.int .i64 1,.int .i64 3,.int .i64 4] 2)=Y at*;clear ag
   rotate_left
   focus
    skip;refine z4R 9 _ rfl ?_;have U:=World.ownsRow_lit (e:=2) (size:=1) wd #[.int .i64 0,.int .i64 1,.int .i64 3,.int .i64 4] 4 (Nat.le_refl _) (by decide) rfl;have ao:b<wd.heap.size:=sx.lt.2;have M:Below wd.heap.size wd (wd.alloc (.cells #[.int .i64 0,.int .i64 1,.int .i64 3,.int .i64 4] 2)):=by go_grown
    replace sx:=sx.below M;replace ux:=ux.trans (Out.of_below M);clear M
    go_wp2
    refine ThenGo.to ⟨⟨⟨_,ux.mono C⟩,rfl⟩,?_⟩;generalize ag:wd.heap.size=gp at*;generalize wd.alloc (.cells #[.int .i64 0,.int .i64 1,.int .i64 3,.int .i64 4] 2)=Y at*;refine cla 7 (some 32) 37 #[.pointer (some ⟨b,0,none⟩),.int .i64 3] 3 (by kernel_rfl) ?_;refine(z0m B b (T+2501) 3 _ sx (by omega) (by omega)).mono ?_;rintro e x7 ⟨ri,rfl,N,I,gn⟩;obtain⟨r,rfl⟩:=Int.eq_ofNat_of_zero_le N.1;have ah:r<3:=by have:=N.2.1 (by omega);omega
    replace sx:=I;have un:Out [b] _ _:=Out.of_grown gn;replace ux:=ux.trans un;replace U:=U.kept gn (Or.inr (by simp[Value.ownBlock];omega));clear un gn I N ag;refine⟨_,rfl,⟨⟨_,ux.mono C⟩,rfl⟩,?_⟩;simp only[Act.put,pgE,pjE]
   rotate_left
   all_goals
    refine cla 10 (some 35) 106 #[.pointer (some ⟨b,0,none⟩),.slice (some ⟨gp,0,none⟩) 4 4] 2 (by kernel_rfl) ?_;refine(z06 B b (T+2502) gp _ [0,1,3,4] _ sx (by omega) U (by simp) (by simp) (by simp[Value.ownBlock];omega)).mono ?_;rintro e x9 ⟨v,rfl,hv,I,gn⟩;replace sx:=I;have un:Out [b] _ _:=Out.of_grown gn;replace ux:=ux.trans un;clear un gn I U;refine⟨_,rfl,⟨⟨_,ux.mono C⟩,rfl⟩,?_⟩;simp only[Act.put,pgE,pjE];have aO:(r:Int)<3:=by omega
    have aN:(r:Int)<(d.length:Int):=by have:=aw.out;omega
    refine sgr [(11,1)] 1 (by kernel_rfl) ⟨⟨_,ux.mono C⟩,rfl⟩ ?_;simp only[pkE];repeat go_big_quiet_step (fail)
    refine wpQuiet_nil ?_;refine ona 12 0 rfl (by kernel_rfl) ?_;have oz:=instK.own_out oq ux (fun k hk E=>by simp only[List.mem_singleton]at E;have:=J k hk;omega);obtain⟨g',am,V,_,kc,kf,aq,af⟩:=z2N oz nq m r D (by show r<(A[m]).rep.length;omega) v;replace V:(A[m]).vr=.slice (some ⟨g',0,none⟩) (A[m]).rep.length am:=V;rw[ab,ax]at V;simp only[Value.slice.injEq,Option.some.injEq,Addr.mk.injEq,and_true,true_and]at V;obtain⟨rfl,rfl⟩:=V;have sz:=sx.out (Out.setCell x9 g5 r (iv v)) (by simp only[List.mem_singleton];omega) (fun k hk=>by simp only[List.mem_singleton]at hk;omega);have uz:Out [b,g5] X (x9.setCell ⟨g5,r,none⟩ (iv v)):=(ux.mono C).set (by simp);obtain⟨bl,bh⟩:∃z,x9.cell? ⟨g5,r,none⟩=some (iv z):=⟨_,kc⟩
    clear kc
    go_wp2
    refine ThenGo.to ⟨⟨⟨_,uz⟩,rfl⟩,?_⟩;refine z0e (by kernel_rfl) ?_;refine⟨rfl,_,⟨r,v,gp,rfl,ao,ah,aq,af,sz,uz⟩,?_⟩;simp only[z01,Act.put,pgE,pjE];try rfl
  rintro vs X6 ⟨r,v,gp,rfl,_,ah,ow,fe,sr,uX⟩;simp only[z01,Act.put,pjE];have ad:=Bx.outs uX (fun hk=>by simp only[List.mem_cons,List.not_mem_nil,or_false]at hk;omega);have ae:=R0.outs uX (fun hk=>by simp only[List.mem_cons,List.not_mem_nil,or_false]at hk;omega);have O:Out [b] w X6:=⟨uX.os.trans hg.os,uX.tape.trans hg.tape,uX.output.trans hg.output,Nat.le_trans hg.size uX.size,fun k hk aa=>(uX.block k (Nat.lt_of_lt_of_le hk hg.size) (by simp only[List.mem_singleton]at aa;simp only[List.mem_cons,List.not_mem_nil,or_false];omega)).trans (hg.block k hk aa)⟩
  have nd:(instK.foot (InstQ.setR (⟨ch,.slice c1 s.length c4,s,.slice (some ⟨gr,0,none⟩) (m+1) c5,A,.slice c3 d.length c6,d⟩:InstQ) m r v D)).Nodup:=by rw[fe];exact nq
  have lw:∀k∈instK.foot (InstQ.setR (⟨ch,.slice c1 s.length c4,s,.slice (some ⟨gr,0,none⟩) (m+1) c5,A,.slice c3 d.length c6,d⟩:InstQ) m r v D),w.heap.size<k∧k≠g:=fun k hk=>by rw[fe]at hk;exact J k hk
  have hn:InstQ.n (InstQ.setR (⟨ch,.slice c1 s.length c4,s,.slice (some ⟨gr,0,none⟩) (m+1) c5,A,.slice c3 d.length c6,d⟩:InstQ) m r v D)≤1000:=by rw[z0F,z60];show InstE.n ⟨_,_,z2Z (InstQ.e _).rounds m r v,_⟩≤1000;unfold InstE.n;rw[q0Y];exact Nat.le_trans ap (by omega)
  clear Bx R0 hg hS oq nq J uX fe C;have Bx:=ad;have R0:=ae;clear ad ae;have Rr:=R0.row #[.bool ch,.slice c1 s.length c4,.slice (some ⟨gr,0,none⟩) (m+1) c5,.slice c3 d.length c6];have ai:(Tryz.prog.info? 49).map (·.size)=some (#[.bool ch,.slice c1 s.length c4,.slice (some ⟨gr,0,none⟩) (m+1) c5,.slice c3 d.length c6]:Array Value).size:=z0l;have G:=z0f (X6) w.heap.size #[.bool ch,.slice c1 s.length c4,.slice (some ⟨gr,0,none⟩) (m+1) c5,.slice c3 d.length c6];have HZ:Hid (instK.own ((X6).setRow w.heap.size #[.bool ch,.slice c1 s.length c4,.slice (some ⟨gr,0,none⟩) (m+1) c5,.slice c3 d.length c6]) (InstQ.setR (⟨ch,.slice c1 s.length c4,s,.slice (some ⟨gr,0,none⟩) (m+1) c5,A,.slice c3 d.length c6,d⟩:InstQ) m r v D)∧Src B ((X6).setRow w.heap.size #[.bool ch,.slice c1 s.length c4,.slice (some ⟨gr,0,none⟩) (m+1) c5,.slice c3 d.length c6]) b (T+2600)∧w.grownBy ((X6).setRow w.heap.size #[.bool ch,.slice c1 s.length c4,.slice (some ⟨gr,0,none⟩) (m+1) c5,.slice c3 d.length c6]) (some b)):=by
   refine⟨instK.own_out ow G (fun k hk E=>by simp only[List.mem_singleton]at E;have:=lw k hk;omega),?_,?_⟩
   ·exact(sr.out G (by simp only[List.mem_singleton];omega) (fun k hk=>by simp only[List.mem_singleton]at hk;omega)).mono (by omega)
   ·exact z0k (z0O O) G (fun k hk=>by simp only[List.mem_singleton]at hk;omega)
  have HQ:Hid (InstQ.n (InstQ.setR (⟨ch,.slice c1 s.length c4,s,.slice (some ⟨gr,0,none⟩) (m+1) c5,A,.slice c3 d.length c6,d⟩:InstQ) m r v D)≤1000∧(instK.foot (InstQ.setR (⟨ch,.slice c1 s.length c4,s,.slice (some ⟨gr,0,none⟩) (m+1) c5,A,.slice c3 d.length c6,d⟩:InstQ) m r v D)).Nodup∧∀k∈instK.foot (InstQ.setR (⟨ch,.slice c1 s.length c4,s,.slice (some ⟨gr,0,none⟩) (m+1) c5,A,.slice c3 d.length c6,d⟩:InstQ) m r v D),w.heap.size≤k):=⟨hn,nd,fun k hk=>by have:=lw k hk;omega⟩
  obtain⟨p0,p1,p2,p3⟩:=Bx.cel4;clear ow nd lw hn sr O G
  go_wp2_with (first|(refine z0d (by kernel_rfl) 49 _ _ rfl _ #[.bool ch,.slice c1 s.length c4,.slice (some ⟨gr,0,none⟩) (m+1) c5,.slice c3 d.length c6] rfl rfl 49 _ R0 ai rfl (by simp[Value.oneCell']) ?_))
  obtain⟨q0,q1,q2,q3⟩:=Rr.cel4;exact bodyPost_ret (v:=.agg #[.bool ch,.slice c1 s.length c4,.slice (some ⟨gr,0,none⟩) (m+1) c5,.slice c3 d.length c6]) (by simp[results,Tryz.results59,go_sem,q0,q1,q2,q3]) rfl ⟨(InstQ.setR (⟨ch,.slice c1 s.length c4,s,.slice (some ⟨gr,0,none⟩) (m+1) c5,A,.slice c3 d.length c6,d⟩:InstQ) m r v D),rfl,HQ.out.1,HZ.out.1,HQ.out.2.1,HQ.out.2.2,HZ.out.2.1,HZ.out.2.2⟩
 ·skip;obtain⟨gr,rfl⟩:=oq.2.1.blkOf (by show 0<List.length A;omega);have al:=(oq.2.1.2 _ (List.getElem_mem D)).2;have ax:(A[m]).pro.length=3:=(aZ m D).2;obtain⟨sa,sc,ab⟩:=al.shape;rw[ab]at al;obtain⟨g5,rfl⟩:=al.blkOf (by omega);rw[ax]at ab;have aB:g5∈instK.foot (⟨ch,.slice c1 s.length c4,s,.slice (some ⟨gr,0,none⟩) (m+1) c5,A,.slice c3 d.length c6,d⟩:InstQ):=List.mem_append_right _ (List.mem_append_left _ (List.mem_append_right _ (List.mem_flatMap.2 ⟨A[m],List.getElem_mem D,List.mem_append_right _ (by rw[ab,z1j];simp)⟩)));have aK:=J g5 aB;have bp:gr≠g5:=by
   intro e;have aV:=(List.nodup_append.1 (List.nodup_append.1 nq).2.1).1;have hx:=(List.nodup_append.1 aV).2.2 gr (by simp[blk,Value.ownBlock]) g5 (List.mem_flatMap.2 ⟨A[m],List.getElem_mem D,List.mem_append_right _ (by rw[ab,z1j];simp)⟩);exact hx e
  have aD:gr∈instK.foot (⟨ch,.slice c1 s.length c4,s,.slice (some ⟨gr,0,none⟩) (m+1) c5,A,.slice c3 d.length c6,d⟩:InstQ):=List.mem_append_right _ (List.mem_append_left _ (List.mem_append_left _ (by simp[blk,Value.ownBlock])));have ba:=J gr aD;have az:=(oq.2.1.cell m D 1 (.slice (some ⟨g5,0,none⟩) 3 sc) (by show([(A[m]).vr,(A[m]).vp]:List Value)[1]?=_;rw[←ab];rfl)).1;have an:X.cell? ⟨gr,m*2+1,none⟩=some (.slice (some ⟨g5,0,none⟩) 3 sc):=az;have pz:=z0g (F:=[b,g5]) (Bx.cell 2 _ rfl) (by simp only[List.mem_cons,List.not_mem_nil,or_false];omega);have py:=z0g (F:=[b,g5]) an (by simp only[List.mem_cons,List.not_mem_nil,or_false];omega);have bu:(m:Int)<(m:Int)+1:=by omega
  clear az an al;have C:∀k∈[b],k∈[b,g5]:=fun k hk=>by simp only[List.mem_singleton]at hk;simp[hk]
  go_wp2_with fail
  clear av;refine z0T [some 39,some 40,some 41,some 42,some 43,some 44,some 45,some 46,some 47,some 48,some 49,some 50] (fun vs w'=>∃ (r:Nat) (v:Int) (gp:Nat),vs=[.pointer (some ⟨g,2,none⟩),.slice (some ⟨gr,0,none⟩) (m+1) c5,.int .i64 (m:Int),.pointer (some ⟨gr,m*2,none⟩),.pointer (some ⟨gr,m*2+1,none⟩),.slice (some ⟨g5,0,none⟩) 3 sc,.pointer (some ⟨b,0,none⟩),.int .i64 (r:Int),.pointer (some ⟨b,0,none⟩),.slice (some ⟨gp,0,none⟩) 4 4,.int .i64 v,.pointer (some ⟨g5,r,none⟩)]∧b<gp∧r<3∧instK.own w' (InstQ.setP (⟨ch,.slice c1 s.length c4,s,.slice (some ⟨gr,0,none⟩) (m+1) c5,A,.slice c3 d.length c6,d⟩:InstQ) m r v D)∧instK.foot (InstQ.setP (⟨ch,.slice c1 s.length c4,s,.slice (some ⟨gr,0,none⟩) (m+1) c5,A,.slice c3 d.length c6,d⟩:InstQ) m r v D)=instK.foot (⟨ch,.slice c1 s.length c4,s,.slice (some ⟨gr,0,none⟩) (m+1) c5,A,.slice c3 d.length c6,d⟩:InstQ)∧Src B w' b (T+2503)∧Out [b,g5] X w') ?_ ?_
  ·have sx:Src B X.drew b (T+2501):=hS.below ((Below.refl _ _).drew);have ux:Out [b] X X.drew:=Out.of_below ((Below.refl _ _).drew);have aI:Nonempty (LatO [b,g5] X):=⟨⟨X,Out.refl _ _⟩⟩
   refine z0b (S:=fun w'=>∃u:LatO [b,g5] X,w'=u.val) (by kernel_rfl) ?_;refine sgr [(0,7),(8,1)] 5 (by kernel_rfl) ⟨⟨_,ux.mono C⟩,rfl⟩ ?_;simp only[pkE];repeat go_big_quiet_step (fail)
   refine wpQuiet_nil ?_;generalize X.drew=wd at sx ux⊢;refine twa 7 9 4 (by kernel_rfl) ?_ ?_
   focus
    skip;refine opc 7 (some 46) 37 #[.pointer (some ⟨b,0,none⟩),.int .i64 3] (by kernel_rfl) ?_;refine(z0m B b (T+2501) 3 _ sx (by omega) (by omega)).mono ?_;rintro e x7 ⟨ri,rfl,N,I,gn⟩;obtain⟨r,rfl⟩:=Int.eq_ofNat_of_zero_le N.1;have ah:r<3:=by have:=N.2.1 (by omega);omega
    replace sx:=I;have un:Out [b] _ _:=Out.of_grown gn;replace ux:=ux.trans un;clear un gn I N;refine⟨_,rfl,⟨⟨_,ux.mono C⟩,rfl⟩,?_⟩;simp only[Act.put,pgE,pjE];refine ona 9 3 rfl (by kernel_rfl) ?_;have U:=World.ownsRow_lit (e:=2) (size:=1) x7 #[.int .i64 0,.int .i64 1,.int .i64 2,.int .i64 3] 4 (Nat.le_refl _) (by decide) rfl;have ao:b<x7.heap.size:=sx.lt.2;have M:Below x7.heap.size x7 (x7.alloc (.cells #[.int .i64 0,.int .i64 1,.int .i64 2,.int .i64 3] 2)):=by go_grown
    replace sx:=sx.below M;replace ux:=ux.trans (Out.of_below M);clear M
    go_wp2
    refine ThenGo.to ⟨⟨⟨_,ux.mono C⟩,rfl⟩,?_⟩;generalize ag:x7.heap.size=gp at*;generalize x7.alloc (.cells #[.int .i64 0,.int .i64 1,.int .i64 2,.int .i64 3] 2)=Y at*;clear ag
   rotate_left
   focus
    skip;refine z4R 9 _ rfl ?_;have U:=World.ownsRow_lit (e:=2) (size:=1) wd #[.int .i64 0,.int .i64 1,.int .i64 2,.int .i64 3] 4 (Nat.le_refl _) (by decide) rfl;have ao:b<wd.heap.size:=sx.lt.2;have M:Below wd.heap.size wd (wd.alloc (.cells #[.int .i64 0,.int .i64 1,.int .i64 2,.int .i64 3] 2)):=by go_grown
    replace sx:=sx.below M;replace ux:=ux.trans (Out.of_below M);clear M
    go_wp2
    refine ThenGo.to ⟨⟨⟨_,ux.mono C⟩,rfl⟩,?_⟩;generalize ag:wd.heap.size=gp at*;generalize wd.alloc (.cells #[.int .i64 0,.int .i64 1,.int .i64 2,.int .i64 3] 2)=Y at*;refine cla 7 (some 46) 37 #[.pointer (some ⟨b,0,none⟩),.int .i64 3] 3 (by kernel_rfl) ?_;refine(z0m B b (T+2501) 3 _ sx (by omega) (by omega)).mono ?_;rintro e x7 ⟨ri,rfl,N,I,gn⟩;obtain⟨r,rfl⟩:=Int.eq_ofNat_of_zero_le N.1;have ah:r<3:=by have:=N.2.1 (by omega);omega
    replace sx:=I;have un:Out [b] _ _:=Out.of_grown gn;replace ux:=ux.trans un;replace U:=U.kept gn (Or.inr (by simp[Value.ownBlock];omega));clear un gn I N ag;refine⟨_,rfl,⟨⟨_,ux.mono C⟩,rfl⟩,?_⟩;simp only[Act.put,pgE,pjE]
   rotate_left
   all_goals
    refine cla 10 (some 49) 106 #[.pointer (some ⟨b,0,none⟩),.slice (some ⟨gp,0,none⟩) 4 4] 2 (by kernel_rfl) ?_;refine(z06 B b (T+2502) gp _ [0,1,2,3] _ sx (by omega) U (by simp) (by simp) (by simp[Value.ownBlock];omega)).mono ?_;rintro e x9 ⟨v,rfl,hv,I,gn⟩;replace sx:=I;have un:Out [b] _ _:=Out.of_grown gn;replace ux:=ux.trans un;clear un gn I U;refine⟨_,rfl,⟨⟨_,ux.mono C⟩,rfl⟩,?_⟩;simp only[Act.put,pgE,pjE];have aO:(r:Int)<3:=by omega
    have aN:(r:Int)<(d.length:Int):=by have:=aw.out;omega
    refine sgr [(11,1)] 1 (by kernel_rfl) ⟨⟨_,ux.mono C⟩,rfl⟩ ?_;simp only[pkE];repeat go_big_quiet_step (fail)
    refine wpQuiet_nil ?_;refine ona 12 0 rfl (by kernel_rfl) ?_;have oz:=instK.own_out oq ux (fun k hk E=>by simp only[List.mem_singleton]at E;have:=J k hk;omega);obtain⟨g',am,V,_,kc,kf,aq,af⟩:=z62 oz nq m r D (by show r<(A[m]).pro.length;omega) v;replace V:(A[m]).vp=.slice (some ⟨g',0,none⟩) (A[m]).pro.length am:=V;rw[ab,ax]at V;simp only[Value.slice.injEq,Option.some.injEq,Addr.mk.injEq,and_true,true_and]at V;obtain⟨rfl,rfl⟩:=V;have sz:=sx.out (Out.setCell x9 g5 r (iv v)) (by simp only[List.mem_singleton];omega) (fun k hk=>by simp only[List.mem_singleton]at hk;omega);have uz:Out [b,g5] X (x9.setCell ⟨g5,r,none⟩ (iv v)):=(ux.mono C).set (by simp);obtain⟨bl,bh⟩:∃z,x9.cell? ⟨g5,r,none⟩=some (iv z):=⟨_,kc⟩
    clear kc
    go_wp2
    refine ThenGo.to ⟨⟨⟨_,uz⟩,rfl⟩,?_⟩;refine z0e (by kernel_rfl) ?_;refine⟨rfl,_,⟨r,v,gp,rfl,ao,ah,aq,af,sz,uz⟩,?_⟩;simp only[z01,Act.put,pgE,pjE];try rfl
  rintro vs X6 ⟨r,v,gp,rfl,_,ah,ow,fe,sr,uX⟩;simp only[z01,Act.put,pjE];have ad:=Bx.outs uX (fun hk=>by simp only[List.mem_cons,List.not_mem_nil,or_false]at hk;omega);have ae:=R0.outs uX (fun hk=>by simp only[List.mem_cons,List.not_mem_nil,or_false]at hk;omega);have O:Out [b] w X6:=⟨uX.os.trans hg.os,uX.tape.trans hg.tape,uX.output.trans hg.output,Nat.le_trans hg.size uX.size,fun k hk aa=>(uX.block k (Nat.lt_of_lt_of_le hk hg.size) (by simp only[List.mem_singleton]at aa;simp only[List.mem_cons,List.not_mem_nil,or_false];omega)).trans (hg.block k hk aa)⟩
  have nd:(instK.foot (InstQ.setP (⟨ch,.slice c1 s.length c4,s,.slice (some ⟨gr,0,none⟩) (m+1) c5,A,.slice c3 d.length c6,d⟩:InstQ) m r v D)).Nodup:=by rw[fe];exact nq
  have lw:∀k∈instK.foot (InstQ.setP (⟨ch,.slice c1 s.length c4,s,.slice (some ⟨gr,0,none⟩) (m+1) c5,A,.slice c3 d.length c6,d⟩:InstQ) m r v D),w.heap.size<k∧k≠g:=fun k hk=>by rw[fe]at hk;exact J k hk
  have hn:InstQ.n (InstQ.setP (⟨ch,.slice c1 s.length c4,s,.slice (some ⟨gr,0,none⟩) (m+1) c5,A,.slice c3 d.length c6,d⟩:InstQ) m r v D)≤1000:=by rw[z0F,z9H];show InstE.n ⟨_,_,z5y (InstQ.e _).rounds m r v,_⟩≤1000;unfold InstE.n;rw[q0X];exact Nat.le_trans ap (by omega)
  clear Bx R0 hg hS oq nq J uX fe C;have Bx:=ad;have R0:=ae;clear ad ae;have Rr:=R0.row #[.bool ch,.slice c1 s.length c4,.slice (some ⟨gr,0,none⟩) (m+1) c5,.slice c3 d.length c6];have ai:(Tryz.prog.info? 49).map (·.size)=some (#[.bool ch,.slice c1 s.length c4,.slice (some ⟨gr,0,none⟩) (m+1) c5,.slice c3 d.length c6]:Array Value).size:=z0l;have G:=z0f (X6) w.heap.size #[.bool ch,.slice c1 s.length c4,.slice (some ⟨gr,0,none⟩) (m+1) c5,.slice c3 d.length c6];have HZ:Hid (instK.own ((X6).setRow w.heap.size #[.bool ch,.slice c1 s.length c4,.slice (some ⟨gr,0,none⟩) (m+1) c5,.slice c3 d.length c6]) (InstQ.setP (⟨ch,.slice c1 s.length c4,s,.slice (some ⟨gr,0,none⟩) (m+1) c5,A,.slice c3 d.length c6,d⟩:InstQ) m r v D)∧Src B ((X6).setRow w.heap.size #[.bool ch,.slice c1 s.length c4,.slice (some ⟨gr,0,none⟩) (m+1) c5,.slice c3 d.length c6]) b (T+2600)∧w.grownBy ((X6).setRow w.heap.size #[.bool ch,.slice c1 s.length c4,.slice (some ⟨gr,0,none⟩) (m+1) c5,.slice c3 d.length c6]) (some b)):=by
   refine⟨instK.own_out ow G (fun k hk E=>by simp only[List.mem_singleton]at E;have:=lw k hk;omega),?_,?_⟩
   ·exact(sr.out G (by simp only[List.mem_singleton];omega) (fun k hk=>by simp only[List.mem_singleton]at hk;omega)).mono (by omega)
   ·exact z0k (z0O O) G (fun k hk=>by simp only[List.mem_singleton]at hk;omega)
  have HQ:Hid (InstQ.n (InstQ.setP (⟨ch,.slice c1 s.length c4,s,.slice (some ⟨gr,0,none⟩) (m+1) c5,A,.slice c3 d.length c6,d⟩:InstQ) m r v D)≤1000∧(instK.foot (InstQ.setP (⟨ch,.slice c1 s.length c4,s,.slice (some ⟨gr,0,none⟩) (m+1) c5,A,.slice c3 d.length c6,d⟩:InstQ) m r v D)).Nodup∧∀k∈instK.foot (InstQ.setP (⟨ch,.slice c1 s.length c4,s,.slice (some ⟨gr,0,none⟩) (m+1) c5,A,.slice c3 d.length c6,d⟩:InstQ) m r v D),w.heap.size≤k):=⟨hn,nd,fun k hk=>by have:=lw k hk;omega⟩
  obtain⟨p0,p1,p2,p3⟩:=Bx.cel4;clear ow nd lw hn sr O G
  go_wp2_with (first|(refine z0d (by kernel_rfl) 49 _ _ rfl _ #[.bool ch,.slice c1 s.length c4,.slice (some ⟨gr,0,none⟩) (m+1) c5,.slice c3 d.length c6] rfl rfl 49 _ R0 ai rfl (by simp[Value.oneCell']) ?_))
  obtain⟨q0,q1,q2,q3⟩:=Rr.cel4;exact bodyPost_ret (v:=.agg #[.bool ch,.slice c1 s.length c4,.slice (some ⟨gr,0,none⟩) (m+1) c5,.slice c3 d.length c6]) (by simp[results,Tryz.results59,go_sem,q0,q1,q2,q3]) rfl ⟨(InstQ.setP (⟨ch,.slice c1 s.length c4,s,.slice (some ⟨gr,0,none⟩) (m+1) c5,A,.slice c3 d.length c6,d⟩:InstQ) m r v D),rfl,HQ.out.1,HZ.out.1,HQ.out.2.1,HQ.out.2.2,HZ.out.2.1,HZ.out.2.2⟩
 ·skip;have bE:=Bx.frozen 0;obtain⟨y0,y1,y2,y3⟩:=Bx.cel4;have uz:=Out.setCell X g 0 (.bool (!ch));have a6:Blk (X.setCell ⟨g,0,none⟩ (.bool (!ch))) g 49 #[.bool !ch,.slice c1 s.length c4,.slice c2 (m+1) c5,.slice c3 d.length c6]:=Bx.set 0 (.bool (!ch));have a7:=R0.other (b':=g) (by omega) 0 (.bool (!ch));have ow:instK.own (X.setCell ⟨g,0,none⟩ (.bool (!ch))) (⟨!ch,.slice c1 s.length c4,s,.slice c2 (m+1) c5,A,.slice c3 d.length c6,d⟩:InstQ):=by
   have h9:=instK.own_out oq uz (fun k hk E=>by simp only[List.mem_singleton]at E;have:=J k hk;omega);exact h9
  have nd:(instK.foot (⟨!ch,.slice c1 s.length c4,s,.slice c2 (m+1) c5,A,.slice c3 d.length c6,d⟩:InstQ)).Nodup:=nq;have lw:∀k∈instK.foot (⟨!ch,.slice c1 s.length c4,s,.slice c2 (m+1) c5,A,.slice c3 d.length c6,d⟩:InstQ),w.heap.size<k∧k≠g:=J;have hn:InstQ.n (⟨!ch,.slice c1 s.length c4,s,.slice c2 (m+1) c5,A,.slice c3 d.length c6,d⟩:InstQ)≤1000:=by have h9:=ap;rw[←z0F]at h9;show InstQ.n (⟨ch,.slice c1 s.length c4,s,.slice c2 (m+1) c5,A,.slice c3 d.length c6,d⟩:InstQ)≤1000;omega
  have sr:=hS.out uz (by simp only[List.mem_singleton];omega) (fun k hk=>by simp only[List.mem_singleton]at hk;omega);have O:Out [b] w (X.setCell ⟨g,0,none⟩ (.bool (!ch))):=⟨uz.os.trans hg.os,uz.tape.trans hg.tape,uz.output.trans hg.output,Nat.le_trans hg.size uz.size,fun k hk aa=>(uz.block k (Nat.lt_of_lt_of_le hk hg.size) (by simp only[List.mem_singleton];omega)).trans (hg.block k hk aa)⟩
  clear Bx R0 hg hS oq nq J uz av;have Bx:=a6;have R0:=a7;clear a6 a7;have Rr:=R0.row #[.bool !ch,.slice c1 s.length c4,.slice c2 (m+1) c5,.slice c3 d.length c6];have ai:(Tryz.prog.info? 49).map (·.size)=some (#[.bool !ch,.slice c1 s.length c4,.slice c2 (m+1) c5,.slice c3 d.length c6]:Array Value).size:=z0l;have G:=z0f (X.setCell ⟨g,0,none⟩ (.bool (!ch))) w.heap.size #[.bool !ch,.slice c1 s.length c4,.slice c2 (m+1) c5,.slice c3 d.length c6];have HZ:Hid (instK.own ((X.setCell ⟨g,0,none⟩ (.bool (!ch))).setRow w.heap.size #[.bool !ch,.slice c1 s.length c4,.slice c2 (m+1) c5,.slice c3 d.length c6]) (⟨!ch,.slice c1 s.length c4,s,.slice c2 (m+1) c5,A,.slice c3 d.length c6,d⟩:InstQ)∧Src B ((X.setCell ⟨g,0,none⟩ (.bool (!ch))).setRow w.heap.size #[.bool !ch,.slice c1 s.length c4,.slice c2 (m+1) c5,.slice c3 d.length c6]) b (T+2600)∧w.grownBy ((X.setCell ⟨g,0,none⟩ (.bool (!ch))).setRow w.heap.size #[.bool !ch,.slice c1 s.length c4,.slice c2 (m+1) c5,.slice c3 d.length c6]) (some b)):=by
   refine⟨instK.own_out ow G (fun k hk E=>by simp only[List.mem_singleton]at E;have:=lw k hk;omega),?_,?_⟩
   ·exact(sr.out G (by simp only[List.mem_singleton];omega) (fun k hk=>by simp only[List.mem_singleton]at hk;omega)).mono (by omega)
   ·exact z0k (z0O O) G (fun k hk=>by simp only[List.mem_singleton]at hk;omega)
  have HQ:Hid (InstQ.n (⟨!ch,.slice c1 s.length c4,s,.slice c2 (m+1) c5,A,.slice c3 d.length c6,d⟩:InstQ)≤1000∧(instK.foot (⟨!ch,.slice c1 s.length c4,s,.slice c2 (m+1) c5,A,.slice c3 d.length c6,d⟩:InstQ)).Nodup∧∀k∈instK.foot (⟨!ch,.slice c1 s.length c4,s,.slice c2 (m+1) c5,A,.slice c3 d.length c6,d⟩:InstQ),w.heap.size≤k):=⟨hn,nd,fun k hk=>by have:=lw k hk;omega⟩
  obtain⟨p0,p1,p2,p3⟩:=Bx.cel4;clear ow nd lw hn sr O G
  go_wp2_with (first|(refine z0d (by kernel_rfl) 49 _ _ rfl _ #[.bool !ch,.slice c1 s.length c4,.slice c2 (m+1) c5,.slice c3 d.length c6] rfl rfl 49 _ R0 ai rfl (by simp[Value.oneCell']) ?_))
  obtain⟨q0,q1,q2,q3⟩:=Rr.cel4;exact bodyPost_ret (v:=.agg #[.bool !ch,.slice c1 s.length c4,.slice c2 (m+1) c5,.slice c3 d.length c6]) (by simp[results,Tryz.results59,go_sem,q0,q1,q2,q3]) rfl ⟨(⟨!ch,.slice c1 s.length c4,s,.slice c2 (m+1) c5,A,.slice c3 d.length c6,d⟩:InstQ),rfl,HQ.out.1,HZ.out.1,HQ.out.2.1,HQ.out.2.2,HZ.out.2.1,HZ.out.2.2⟩
 ·skip;have bF:=Bx.lt;have bD:s.length≤60:=by
   have h9:=ap;rw[←z0F]at h9;dsimp only[InstQ.n]at h9;omega
  have ak:∀k∈txnK.fp (.slice c1 s.length c4) s,w.heap.size<k∧k≠g:=fun k hk=>J k (List.mem_append_left _ hk)
  obtain⟨bc,aL,aH⟩:=List.nodup_append.1 nq;obtain⟨oT,oR,oD⟩:=oq;dsimp only at oT oR oD;have aR:g∉blk (.slice c1 s.length c4):=fun hx=>(ak g (by simp only[Kind.fp,List.mem_append];exact Or.inl hx)).2 rfl
  have HF:Hid (∀x∈txnK.fp (.slice c1 s.length c4) s,x<X.heap.size):=oT.lt;have TR:=oR.lt;have TD:=oD.lt;have m0:=z0g (F:=b::blk (.slice c1 s.length c4)) (Bx.cell 1 _ rfl) (by intro hx;rcases List.mem_cons.1 hx with hx|hx;omega;exact aR hx);have aI:Nonempty (LatO (b::blk (.slice c1 s.length c4)) X):=⟨⟨X,Out.refl _ _⟩⟩
  have sx:Src B X.drew b (T+2501):=hS.below ((Below.refl _ _).drew);have ux:Out [b] X X.drew:=Out.of_below ((Below.refl _ _).drew);have aJ:∀w',Out [b] X w'→∃u:LatO (b::blk (.slice c1 s.length c4)) X,w'=u.val:=fun w' bw=>⟨⟨w',bw.mono (fun k hk=>by simp only[List.mem_singleton]at hk;rw[hk];exact List.mem_cons_self ..)⟩,rfl⟩
  obtain⟨i0,br,bz,bA,bB⟩:=info_parts z1G
  go_wp2_with fail
  clear av;refine z4i (S:=fun w'=>∃u:LatO (b::blk (.slice c1 s.length c4)) X,w'=u.val) (R:=fun _ _=>False) 7 (by kernel_rfl) (fun _ _ _ _ h=>h.elim) ?_;refine sgX [(0,3)] 5 (by kernel_rfl) (aJ _ ux) ?_;simp only[pkE];repeat go_big_quiet_step (fail)
  refine wpQuiet_nil ?_;generalize X.drew=wd at sx ux⊢;refine clX 3 (some 62) 107 #[.pointer (some ⟨b,0,none⟩)] 4 (by kernel_rfl) rfl ?_;refine(z7u B b (T+2501) wd sx (by omega)).mono ?_;rintro e x7 ⟨ti,ts,tq,ta,tc,L,rfl,bK,bg,I,gn⟩;obtain⟨oA,gA⟩:=z5l bg;have bJ:=ux.size;replace sx:=I;have un:Out [b] _ _:=Out.of_grown gn;replace ux:=ux.trans un;clear un gn I bg;refine Or.inl ⟨_,rfl,aJ _ ux,?_⟩;simp only[Act.put,pgE,pjE];refine onX 4 3 rfl (by kernel_rfl) ?_;have aj:Below x7.heap.size x7 (x7.alloc (.cells #[.int .i64 ti,.int .i64 ts,.int .i64 tq,.slice ta L.length tc] 44)):=by go_grown
  have aP:∀j u,[Value.int .i64 ti,.int .i64 ts,.int .i64 tq,.slice ta L.length tc][j]?=some u→(x7.alloc (.cells #[.int .i64 ti,.int .i64 ts,.int .i64 tq,.slice ta L.length tc] 44)).cell? ((⟨x7.heap.size,0,none⟩:Addr).add j)=some u:=by
   intro j u hj;match j,hj with|0,hj=>simp at hj;subst hj;simp[Addr.add]|1,hj=>simp at hj;subst hj;simp[Addr.add]|2,hj=>simp at hj;subst hj;simp[Addr.add]|3,hj=>simp at hj;subst hj;simp[Addr.add]
  replace sx:=sx.below aj;replace ux:=ux.trans (Out.of_below aj);replace oA:=oA.below aj
  go_wp2
  refine ThenX.to ⟨Or.inr (aJ _ ux),?_⟩;generalize x7.alloc (.cells #[.int .i64 ti,.int .i64 ts,.int .i64 tq,.slice ta L.length tc] 44)=Z at*;clear aj;have a2:=oT.out ux (fun k hk E=>by simp only[List.mem_singleton]at E;have:=ak k hk;omega);have aF:=a2.1;refine onX 5 2 rfl (by kernel_rfl) ?_;refine wpList_append_own_at _ rfl _ _ 27 rfl 0 44 i0 (.agg #[.int .i64 0,.int .i64 0,.int .i64 0,.slice none 0 0]) 4 48 Tryz.underlying27 br bz bA bB rfl (by decide) _ s.length (txnK.row s) rfl aF ⟨x7.heap.size,0,none⟩ 1 1 [.int .i64 ti,.int .i64 ts,.int .i64 tq,.slice ta L.length tc] rfl rfl aP ?c2 ?c3 ?c4 ?c5 ?_
  case c2=>intro u hu;simp at hu;rcases hu with rfl|rfl|rfl|rfl<;>rfl
  case c3=>unfold maxLen;omega
  case c4=>omega
  case c5=>omega
  intro v' x8 aM aE bf ar;clear bf aF aP;have bC:=ux.size;obtain ⟨aS,bd,bb,aW⟩:=a2.snoc (p:=(⟨ti,ts,tq,.slice ta L.length tc,L⟩:TxnQ)) (B:=w.heap.size + 1) bc (fun k hk=>by have:=ak k hk;omega) oA (by show (actK.fp _ _).Nodup;rw [z3U];exact z1h _) (fun x hx bx => by
   have h1:=gA x hx;have h2:=HF.out x bx;omega) (fun x hx=>by have:=gA x hx;omega) (by omega) aM aE ar
  have aU:∀k∈txnK.fp v' (s++[(⟨ti,ts,tq,.slice ta L.length tc,L⟩:TxnQ)]),k∈txnK.fp (.slice c1 s.length c4) s∨X.heap.size≤k:=by
   intro k hk;unfold Kind.fp at hk⊢;rw[List.flatMap_append]at hk;rcases List.mem_append.1 hk with hk|hk
   ·rcases ar with ar|ar
    ·left;apply List.mem_append_left;unfold blk at hk⊢;rw[ar]at hk;exact hk
    ·right;unfold blk at hk;rw[ar]at hk;simp only[Option.toList,List.mem_singleton]at hk;omega
   ·rcases List.mem_append.1 hk with hk|hk
    ·left;exact List.mem_append_right _ hk
    ·right;have E:k∈txnK.foot (⟨ti,ts,tq,.slice ta L.length tc,L⟩:TxnQ):=by simpa using hk
     have:=gA k E;omega
  obtain⟨na,nc,rfl⟩:=aS.shape;have au:∀x∈blk (.slice c1 s.length c4),x∈txnK.fp (.slice c1 s.length c4) s:=fun x hx=>by simp only[Kind.fp,List.mem_append];exact Or.inl hx
  have u8:Out (b::blk (.slice c1 s.length c4)) X x8:=(ux.mono (fun k hk=>by simp only[List.mem_singleton]at hk;rw[hk];exact List.mem_cons_self ..)).trans (aW.mono (fun k hk=>List.mem_cons_of_mem _ hk));have aG:=Bx.outs u8 (fun hx=>by rcases List.mem_cons.1 hx with hx|hx;omega;exact aR hx);have a8:=R0.outs u8 (fun hx=>by rcases List.mem_cons.1 hx with hx|hx;omega;have:=ak _ (au _ hx);omega);have bk:=oR.out u8 (fun k hk hx=>by rcases List.mem_cons.1 hx with hx|hx;(have:=J k (List.mem_append_right _ (List.mem_append_left _ hk));omega);exact aH k (au k hx) k (List.mem_append_left _ hk) rfl);have bj:=oD.out u8 (fun k hk hx=>by rcases List.mem_cons.1 hx with hx|hx;(have:=J k (List.mem_append_right _ (List.mem_append_right _ hk));omega);exact aH k (au k hx) k (List.mem_append_right _ hk) rfl);have s8:=sx.out aW (fun hx=>by have:=ak b (au b hx);omega) (fun k hk=>by have:=ak k (au k hk);omega);have a1:∀k∈txnK.fp (.slice na (s++[(⟨ti,ts,tq,.slice ta L.length tc,L⟩:TxnQ)]).length nc) (s++[(⟨ti,ts,tq,.slice ta L.length tc,L⟩:TxnQ)]),w.heap.size<k∧k≠g:=fun k hk=>by
   rcases aU k hk with h|h
   ·exact ak k h
   ·omega
  have bi:(instK.foot (⟨ch,.slice na (s++[(⟨ti,ts,tq,.slice ta L.length tc,L⟩:TxnQ)]).length nc,(s++[(⟨ti,ts,tq,.slice ta L.length tc,L⟩:TxnQ)]),.slice c2 (m+1) c5,A,.slice c3 d.length c6,d⟩:InstQ)).Nodup:=by
   refine List.nodup_append.2 ⟨bd,aL,fun x hx y hy e=>?_⟩;subst e;rcases aU x hx with h|h
   ·exact aH x h x hy rfl
   ·rcases List.mem_append.1 hy with hy|hy
    ·have:=TR x hy;omega
    ·have:=TD x hy;omega
  have be:InstQ.n (⟨ch,.slice na (s++[(⟨ti,ts,tq,.slice ta L.length tc,L⟩:TxnQ)]).length nc,(s++[(⟨ti,ts,tq,.slice ta L.length tc,L⟩:TxnQ)]),.slice c2 (m+1) c5,A,.slice c3 d.length c6,d⟩:InstQ)≤1000:=by
   have h9:=ap;rw[←z0F]at h9;dsimp only[InstQ.n]at h9⊢;have bn:nmL TxnQ.n (s++[(⟨ti,ts,tq,.slice ta L.length tc,L⟩:TxnQ)])=nmL TxnQ.n s+L.length:=by simp[nmL,TxnQ.n]
   rw[bn,List.length_append,List.length_singleton];omega
  clear aW oA gA aM aE ar a2 m0 HF aU bd bb ux sx oT oR oD;generalize bm:s++[(⟨ti,ts,tq,.slice ta L.length tc,L⟩:TxnQ)]=ks at*;clear bm
  go_wp2
  refine ThenX.to ⟨Or.inr ⟨⟨_,u8⟩,rfl⟩,?_⟩;simp only[Act.put,pgE,pjE];refine onX 6 1 rfl (by kernel_rfl) ?_
  go_wp2
  refine ThenX.to ⟨Or.inr ⟨⟨_,u8⟩,rfl⟩,?_⟩;refine onX 7 0 rfl (by kernel_rfl) ?_;have t3:=aG.cell 1 _ rfl;have t4:=aG.frozen 1;have ad:Blk (x8.setCell ⟨g,1,none⟩ (.slice na ks.length nc)) g 49 #[.bool ch,.slice na ks.length nc,.slice c2 (m+1) c5,.slice c3 d.length c6]:=aG.set 1 (.slice na ks.length nc);have U6:=Out.setCell x8 g 1 (.slice na ks.length nc);have ae:=a8.outs U6 (fun hk=>by simp only[List.mem_singleton]at hk;omega);have ow:instK.own (x8.setCell ⟨g,1,none⟩ (.slice na ks.length nc)) (⟨ch,.slice na ks.length nc,ks,.slice c2 (m+1) c5,A,.slice c3 d.length c6,d⟩:InstQ):=⟨aS.out U6 (fun k hk E=>by simp only[List.mem_singleton]at E;have:=a1 k hk;omega),bk.out U6 (fun k hk E=>by simp only[List.mem_singleton]at E;have:=J k (List.mem_append_right _ (List.mem_append_left _ hk));omega),bj.out U6 (fun k hk E=>by simp only[List.mem_singleton]at E;have:=J k (List.mem_append_right _ (List.mem_append_right _ hk));omega)⟩
  have sr:=s8.out U6 (by simp only[List.mem_singleton];omega) (fun k hk=>by simp only[List.mem_singleton]at hk;omega);have O:Out [b] w (x8.setCell ⟨g,1,none⟩ (.slice na ks.length nc)):=⟨U6.os.trans (u8.os.trans hg.os),U6.tape.trans (u8.tape.trans hg.tape),U6.output.trans (u8.output.trans hg.output),Nat.le_trans hg.size (Nat.le_trans u8.size U6.size),fun k hk aa=>(U6.block k (Nat.lt_of_lt_of_le hk (Nat.le_trans hg.size u8.size)) (by simp only[List.mem_singleton];omega)).trans ((u8.block k (Nat.lt_of_lt_of_le hk hg.size) (fun hx=>by rcases List.mem_cons.1 hx with hx|hx;(exact aa (by rw[hx];simp));have:=ak k (au k hx);omega)).trans (hg.block k hk aa))⟩
  have lw:∀k∈instK.foot (⟨ch,.slice na ks.length nc,ks,.slice c2 (m+1) c5,A,.slice c3 d.length c6,d⟩:InstQ),w.heap.size<k∧k≠g:=fun k hk=>by
   rcases List.mem_append.1 hk with hk|hk
   ·exact a1 k hk
   ·exact J k (List.mem_append_right _ hk)
  have nd:=bi;have hn:=be;clear Bx R0 aG a8 bk bj s8 U6 aS a1 bi be J hg hS ak au bc aL aH nq TR TD
  go_wp2
  refine ThenX.to ⟨Or.inl (by kernel_rfl),?_⟩;refine q0b (by kernel_rfl) ?_;clear t3 t4 u8 aI aJ aR;generalize x8.setCell ⟨g,1,none⟩ (.slice na ks.length nc)=X6 at*;have Bx:=ad;have R0:=ae;clear ad ae;have Rr:=R0.row #[.bool ch,.slice na ks.length nc,.slice c2 (m+1) c5,.slice c3 d.length c6];have ai:(Tryz.prog.info? 49).map (·.size)=some (#[.bool ch,.slice na ks.length nc,.slice c2 (m+1) c5,.slice c3 d.length c6]:Array Value).size:=z0l;have G:=z0f (X6) w.heap.size #[.bool ch,.slice na ks.length nc,.slice c2 (m+1) c5,.slice c3 d.length c6];have HZ:Hid (instK.own ((X6).setRow w.heap.size #[.bool ch,.slice na ks.length nc,.slice c2 (m+1) c5,.slice c3 d.length c6]) (⟨ch,.slice na ks.length nc,ks,.slice c2 (m+1) c5,A,.slice c3 d.length c6,d⟩:InstQ)∧Src B ((X6).setRow w.heap.size #[.bool ch,.slice na ks.length nc,.slice c2 (m+1) c5,.slice c3 d.length c6]) b (T+2600)∧w.grownBy ((X6).setRow w.heap.size #[.bool ch,.slice na ks.length nc,.slice c2 (m+1) c5,.slice c3 d.length c6]) (some b)):=by
   refine⟨instK.own_out ow G (fun k hk E=>by simp only[List.mem_singleton]at E;have:=lw k hk;omega),?_,?_⟩
   ·exact(sr.out G (by simp only[List.mem_singleton];omega) (fun k hk=>by simp only[List.mem_singleton]at hk;omega)).mono (by omega)
   ·exact z0k (z0O O) G (fun k hk=>by simp only[List.mem_singleton]at hk;omega)
  have HQ:Hid (InstQ.n (⟨ch,.slice na ks.length nc,ks,.slice c2 (m+1) c5,A,.slice c3 d.length c6,d⟩:InstQ)≤1000∧(instK.foot (⟨ch,.slice na ks.length nc,ks,.slice c2 (m+1) c5,A,.slice c3 d.length c6,d⟩:InstQ)).Nodup∧∀k∈instK.foot (⟨ch,.slice na ks.length nc,ks,.slice c2 (m+1) c5,A,.slice c3 d.length c6,d⟩:InstQ),w.heap.size≤k):=⟨hn,nd,fun k hk=>by have:=lw k hk;omega⟩
  obtain⟨p0,p1,p2,p3⟩:=Bx.cel4;clear ow nd lw hn sr O G
  go_wp2_with (first|(refine z0d (by kernel_rfl) 49 _ _ rfl _ #[.bool ch,.slice na ks.length nc,.slice c2 (m+1) c5,.slice c3 d.length c6] rfl rfl 49 _ R0 ai rfl (by simp[Value.oneCell']) ?_))
  obtain⟨q0,q1,q2,q3⟩:=Rr.cel4;exact bodyPost_ret (v:=.agg #[.bool ch,.slice na ks.length nc,.slice c2 (m+1) c5,.slice c3 d.length c6]) (by simp[results,Tryz.results59,go_sem,q0,q1,q2,q3]) rfl ⟨(⟨ch,.slice na ks.length nc,ks,.slice c2 (m+1) c5,A,.slice c3 d.length c6,d⟩:InstQ),rfl,HQ.out.1,HZ.out.1,HQ.out.2.1,HQ.out.2.2,HZ.out.2.1,HZ.out.2.2⟩
 ·skip;have z0:((sn:Int)==0)=false:=by simp;omega
  have z1:((sn:Int)==1)=false:=by simp;omega
  have z2:((sn:Int)==2)=false:=by simp;omega
  have z3:((sn:Int)==3)=false:=by simp;omega
  have z4:((sn:Int)==4)=false:=by simp;omega
  have ow:=oq;have nd:=nq;have lw:=J;have hn:InstQ.n (⟨ch,.slice c1 s.length c4,s,.slice c2 (m+1) c5,A,.slice c3 d.length c6,d⟩:InstQ)≤1000:=by have h9:=ap;rw[←z0F]at h9;omega
  have sr:=hS;have O:=hg;clear oq nq J hS hg av bo;have Rr:=R0.row #[.bool ch,.slice c1 s.length c4,.slice c2 (m+1) c5,.slice c3 d.length c6];have ai:(Tryz.prog.info? 49).map (·.size)=some (#[.bool ch,.slice c1 s.length c4,.slice c2 (m+1) c5,.slice c3 d.length c6]:Array Value).size:=z0l;have G:=z0f (X) w.heap.size #[.bool ch,.slice c1 s.length c4,.slice c2 (m+1) c5,.slice c3 d.length c6];have HZ:Hid (instK.own ((X).setRow w.heap.size #[.bool ch,.slice c1 s.length c4,.slice c2 (m+1) c5,.slice c3 d.length c6]) (⟨ch,.slice c1 s.length c4,s,.slice c2 (m+1) c5,A,.slice c3 d.length c6,d⟩:InstQ)∧Src B ((X).setRow w.heap.size #[.bool ch,.slice c1 s.length c4,.slice c2 (m+1) c5,.slice c3 d.length c6]) b (T+2600)∧w.grownBy ((X).setRow w.heap.size #[.bool ch,.slice c1 s.length c4,.slice c2 (m+1) c5,.slice c3 d.length c6]) (some b)):=by
   refine⟨instK.own_out ow G (fun k hk E=>by simp only[List.mem_singleton]at E;have:=lw k hk;omega),?_,?_⟩
   ·exact(sr.out G (by simp only[List.mem_singleton];omega) (fun k hk=>by simp only[List.mem_singleton]at hk;omega)).mono (by omega)
   ·exact z0k (z0O O) G (fun k hk=>by simp only[List.mem_singleton]at hk;omega)
  have HQ:Hid (InstQ.n (⟨ch,.slice c1 s.length c4,s,.slice c2 (m+1) c5,A,.slice c3 d.length c6,d⟩:InstQ)≤1000∧(instK.foot (⟨ch,.slice c1 s.length c4,s,.slice c2 (m+1) c5,A,.slice c3 d.length c6,d⟩:InstQ)).Nodup∧∀k∈instK.foot (⟨ch,.slice c1 s.length c4,s,.slice c2 (m+1) c5,A,.slice c3 d.length c6,d⟩:InstQ),w.heap.size≤k):=⟨hn,nd,fun k hk=>by have:=lw k hk;omega⟩
  obtain⟨p0,p1,p2,p3⟩:=Bx.cel4;clear ow nd lw hn sr O G
  go_wp2_with (first|(refine z0d (by kernel_rfl) 49 _ _ rfl _ #[.bool ch,.slice c1 s.length c4,.slice c2 (m+1) c5,.slice c3 d.length c6] rfl rfl 49 _ R0 ai rfl (by simp[Value.oneCell']) ?_))
  obtain⟨q0,q1,q2,q3⟩:=Rr.cel4;exact bodyPost_ret (v:=.agg #[.bool ch,.slice c1 s.length c4,.slice c2 (m+1) c5,.slice c3 d.length c6]) (by simp[results,Tryz.results59,go_sem,q0,q1,q2,q3]) rfl ⟨(⟨ch,.slice c1 s.length c4,s,.slice c2 (m+1) c5,A,.slice c3 d.length c6,d⟩:InstQ),rfl,HQ.out.1,HZ.out.1,HQ.out.2.1,HQ.out.2.2,HZ.out.2.1,HZ.out.2.2⟩
theorem z0Y:(Tryz.prog.info? 49).map (fun i=>(i.zero,i.size,i.bytes))=some (some (.agg #[.bool false,.slice none 0 0,.slice none 0 0,.slice none 0 0]),4,80):=by kernel_rfl
theorem z10(v:Value)(zs:List Int)(w:World)(h:intK.At w v zs)(h0:0<zs.length)(hl:zs.length≤1048576):
  Calls Tryz.prog 119 #[v] w fun e w'=>∃a c,e=.returned (.slice a zs.length c)∧intK.Own w' (.slice a zs.length c) zs∧(∀k∈intK.fp (.slice a zs.length c) zs,w.heap.size≤k)∧Below w.heap.size w w':=by
 obtain⟨a,cap,rfl⟩:=h.shape;have hR:=(z0y h).2;obtain⟨b,off,rfl,_⟩:=hR 0 h0;refine(z4S b off cap zs w hR h0 hl).mono ?_;rintro e w2 ⟨a2,c2,rfl,ho,hb⟩;obtain⟨O,G⟩:=z3P rfl ho;exact⟨a2,c2,rfl,O,G,hb⟩
theorem z4r(v:Value)(ps:List RoundQ)(w:World)(h:roundK.At w v ps)(an:∀p∈ps,0<p.rep.length∧0<p.pro.length)(hl:ps.length+nmL RoundQ.n ps≤1048576):
  Calls Tryz.prog 118 #[v] w fun e w'=>∃v' qs,e=.returned v'∧qs.map RoundQ.e=ps.map RoundQ.e∧roundK.Own w' v' qs∧(roundK.fp v' qs).Nodup∧(∀k∈roundK.fp v' qs,w.heap.size≤k)∧Below w.heap.size w w':=by
 obtain⟨a,cap,rfl⟩:=h.shape;obtain⟨i0,hi,av,aw,ax⟩:=info_parts z2K;obtain⟨ad,ae⟩:=Kind.own_nil (K:=roundK) w;have W:Hid ((roundK.fp (.slice none 0 0) ([]:List RoundQ)).Nodup∧∀k∈roundK.fp (.slice none 0 0) ([]:List RoundQ),w.heap.size≤k):=by
  rw[ae];exact⟨by simp,by simp⟩
 clear ae;go_enter Tryz.func118,Tryz.ntmps118
 go_wp2
 go_loopw[3,8] (fun v j wr=>∃ (k:Nat) (qs:List RoundQ),k≤ps.length∧j=.int .i64 k∧Hid (qs.map RoundQ.e=(ps.take k).map RoundQ.e)∧roundK.Own wr v qs∧Hid ((roundK.fp v qs).Nodup∧∀k∈roundK.fp v qs,w.heap.size≤k)∧Below w.heap.size w wr) (fun _ j _=>ps.length-(intOf j).toNat)
 case atStart=>exact⟨0,[],Nat.zero_le _,rfl,(rfl:_=_),ad,W,Below.refl _ _⟩
 case round=>
  clear W ad;obtain⟨k,qs,hk,rfl,HE,hO,HN,hb⟩:=hrel;obtain⟨sa,sc,rfl⟩:=hO.shape;have Y:Hid (qs.length=k):=by
   have:=congrArg List.length HE.out;rw[List.length_map,List.length_map,List.length_take]at this;show qs.length=k;omega
  by_cases E:k<ps.length
  ·obtain⟨b,ay,rfl,aA,hc,aq⟩:=(h.below hb).cell (by decide) k E;have U:∀j x,(roundK.cells ps[k])[j]?=some x→wr.cell? ⟨b,ay+k*2+j,none⟩=some x:=hc;have c0:=U 0 (ps[k].vr) rfl;have c1:=U 1 (ps[k].vp) rfl;have ah:=z2J RoundQ.n ps k E;have s:=an _ (List.getElem_mem E);have X:Hid (∀p':RoundQ,p'.e=RoundQ.e ps[k]→(qs++[p']).map RoundQ.e=(ps.take (k+1)).map RoundQ.e):=fun p' ap=>by
    rw[List.take_succ_eq_append_getElem E,List.map_append,List.map_append,HE.out,List.map_singleton,List.map_singleton,ap]
   clear hc U;generalize ps[k]=p at*;obtain⟨vr,rp,vp,pp⟩:=p;obtain⟨r1,r2⟩:intK.At wr vr rp∧intK.At wr vp pp:=aq;replace ah:rp.length+pp.length≤nmL RoundQ.n ps:=ah;obtain⟨ra,rk,rfl⟩:=r1.shape;obtain⟨pa,pk,rfl⟩:=r2.shape;dsimp only at c0 c1 s;have c:Below wr.heap.size wr (wr.alloc (.cells #[.slice ra rp.length rk,.slice pa pp.length pk] 172)):=by go_grown
   have A:=Blk.new wr 172 #[.slice ra rp.length rk,.slice pa pp.length pk];have HF:Hid (∀x∈roundK.fp (.slice sa qs.length sc) qs,x<wr.heap.size):=hO.lt;rw[Nat.add_zero]at c0;replace hO:=hO.below c;have r3:=r1.below c;have r4:=r2.below c;have C:=hb.trans (c.mono hb.size);have G:=fun w h=>z10 (.slice ra rp.length rk) rp w h s.1 (by omega)
   have I:=fun w h=>z10 (.slice pa pp.length pk) pp w h s.2 (by omega)
   clear HE
   go_wp2_with fail
   clear c0 c1 r1 r2 hb;generalize wr.alloc (.cells #[.slice ra rp.length rk,.slice pa pp.length pk] 172)=W3 at*;clear c;have hF:wr.heap.size∉blk (.slice sa qs.length sc):=fun hx=>by
    have:=HF.out _ (by simp only[Kind.fp,List.mem_append];exact Or.inl hx);omega
   have p0:=z0g (F:=blk (.slice sa qs.length sc)) (A.cell 0 _ rfl) hF;have p1:=z0g (F:=blk (.slice sa qs.length sc)) (A.cell 1 _ rfl) hF;have ao:Nonempty (LatO (blk (.slice sa qs.length sc)) W3):=⟨⟨W3,Out.refl _ _⟩⟩
   have hW:Below W3.heap.size W3 W3.drew:=(Below.refl _ _).drew;have q:∀w',Below W3.heap.size W3 w'→∃u:LatO (blk (.slice sa qs.length sc)) W3,w'=u.val:=fun w' ar=>⟨⟨w',Out.of_below ar⟩,rfl⟩
   refine z0b (S:=fun w'=>∃u:LatO (blk (.slice sa qs.length sc)) W3,w'=u.val) (by kernel_rfl) ?_;refine sgr [(0,3),(4,2)] 6 (by kernel_rfl) (q _ hW) ?_;simp only[pkE];repeat go_big_quiet_step (fail)
   refine wpQuiet_nil ?_;refine cla 3 (some 15) 119 #[.slice ra rp.length rk] 5 (by kernel_rfl) ?_;refine(G _ (r3.below hW)).mono ?_;rintro e w8 ⟨a1,c1,rfl,o1,g1,ab⟩;have L1:∀x∈intK.fp (.slice a1 rp.length c1) rp,W3.heap.size≤x:=fun x hx=>by have:=g1 x hx;have:=hW.size;omega
   have M1:=o1.lt;replace hW:=hW.trans (ab.mono hW.size);clear ab g1;refine⟨_,rfl,q _ hW,?_⟩;simp only[Act.put,pjE];refine cla 6 (some 18) 119 #[.slice pa pp.length pk] 4 (by kernel_rfl) ?_;refine(I _ (r4.below hW)).mono ?_;rintro e w9 ⟨a2,c2,rfl,o2,g2,d⟩;have L2:∀x∈intK.fp (.slice a2 pp.length c2) pp,W3.heap.size≤x:=fun x hx=>by have:=g2 x hx;have:=hW.size;omega
   have J:∀x∈intK.fp (.slice a1 rp.length c1) rp,∀y∈intK.fp (.slice a2 pp.length c2) pp,x≠y:=fun x hx y hy e=>by have:=M1 x hx;have:=g2 y hy;omega
   replace hW:=hW.trans (d.mono hW.size);replace o1:=o1.below d;clear d g2 M1 G I r3 r4;refine⟨_,rfl,q _ hW,?_⟩;simp only[Act.put,pjE];refine qta 7 (some 19) (.agg #[.slice a1 rp.length c1,.slice a2 pp.length c2]) 3 (by kernel_rfl) (fun u _=>by kernel_rfl) (q _ hW) ?_;simp only[Act.put,pjE];refine ona 8 2 rfl (by kernel_rfl) ?_;have D:Below w9.heap.size w9 (w9.alloc (.cells #[.slice a1 rp.length c1,.slice a2 pp.length c2] 172)):=by go_grown
   replace hW:=hW.trans (D.mono hW.size);replace o1:=o1.below D;replace o2:=o2.below D;have N:∀j u,[Value.slice a1 rp.length c1,.slice a2 pp.length c2][j]?=some u→(w9.alloc (.cells #[.slice a1 rp.length c1,.slice a2 pp.length c2] 172)).cell? ((⟨w9.heap.size,0,none⟩:Addr).add j)=some u:=by
    intro j u hj;match j,hj with|0,hj=>simp at hj;subst hj;simp[Addr.add]|1,hj=>simp at hj;subst hj;simp[Addr.add]
   go_wp2
   refine ThenGo.to ⟨q _ hW,?_⟩;generalize w9.alloc (.cells #[.slice a1 rp.length c1,.slice a2 pp.length c2] 172)=Z at*;clear D;have O:=hO.below hW;have d:=C.trans (hW.mono C.size);have z:=O.1;refine ona 9 1 rfl (by kernel_rfl) ?_;refine wpList_append_own_at _ rfl _ _ 46 rfl 0 172 i0 (.agg #[.slice none 0 0,.slice none 0 0]) 2 48 Tryz.underlying46 hi av aw ax rfl (by decide) _ qs.length (roundK.row qs) rfl z ⟨w9.heap.size,0,none⟩ 1 1 [.slice a1 rp.length c1,.slice a2 pp.length c2] rfl rfl N ?c2 ?c3 ?c4 ?c5 ?_
   case c2=>intro u hu;simp at hu;rcases hu with rfl|rfl<;>rfl
   case c3=>have:=Y.out;unfold maxLen;omega
   case c4=>have:=Y.out;omega
   case c5=>omega
   intro v' w5 M r ag aa;clear ag z N;have az:wr.heap.size≤W3.heap.size:=by have:=A.lt;omega
   obtain ⟨ak,af,L,V⟩:=O.snoc (p:=⟨.slice a1 rp.length c1,rp,.slice a2 pp.length c2,pp⟩) HN.out.1 HN.out.2 ⟨o1,o2⟩ (List.nodup_append.2 ⟨z0z _ _,z0z _ _,J⟩) (fun x hx au => by
    have:=HF.out x au;rcases List.mem_append.1 hx with hx|hx
    ·have:=L1 x hx;omega
    ·have:=L2 x hx;omega) (fun x hx=>by
    have:=C.size;rcases List.mem_append.1 hx with hx|hx
    ·have:=L1 x hx;omega
    ·have:=L2 x hx;omega) d.size M r aa
   have al:Below w.heap.size w w5:=Out.keep d V d.size (fun x hx=>HN.out.2 x (by simp only[Kind.fp,List.mem_append];exact Or.inl hx));have T:Out (blk (.slice sa qs.length sc)) W3 w5:=(Out.of_below hW).trans V;have ai:Hid ((qs++[(⟨.slice a1 rp.length c1,rp,.slice a2 pp.length c2,pp⟩:RoundQ)]).map RoundQ.e=(ps.take (k+1)).map RoundQ.e):=X.out _ rfl;have aj:Hid ((roundK.fp v' (qs++[(⟨.slice a1 rp.length c1,rp,.slice a2 pp.length c2,pp⟩:RoundQ)])).Nodup∧∀k∈roundK.fp v' (qs++[(⟨.slice a1 rp.length c1,rp,.slice a2 pp.length c2,pp⟩:RoundQ)]),w.heap.size≤k):=⟨af,L⟩
   clear af L V X HN HF o1 o2 L1 L2 J M r aa O hO d C
   go_wp2
   refine ThenGo.to ⟨⟨⟨_,T⟩,rfl⟩,?_⟩;simp only[Act.put,pgE,pjE];refine sgr [(10,1)] 0 (by kernel_rfl) ⟨⟨_,T⟩,rfl⟩ ?_;simp only[pkE];repeat go_big_quiet_step (fail)
   refine wpQuiet_nil ?_;refine z0e (by kernel_rfl) ?_;clear p0 p1 ao hW T q A hF
   go_wp2
   go_roundw
   case rel=>exact⟨k+1,_,by omega,by go_num,ai,ak,aj,al⟩
   case measure=>simp[intOf];omega
  ·have am:k=ps.length:=by omega
   subst am;have hE:=HE.out;rw[List.take_length]at hE;clear HE
   go_wp2
   go_ret;exact⟨_,qs,rfl,hE,hO,HN.out.1,HN.out.2,hb⟩
theorem z1P(p:InstQ)(w:World)(h:instK.rd w p)(hl:p.n≤1048576)(L:∀t∈p.batch,0<t.acts.length)(M:∀r∈p.rounds,0<r.rep.length∧0<r.pro.length)(J:0<p.dec.length):
  Calls Tryz.prog 63 #[.agg #[.bool p.has,p.vb,p.vr,p.vd]] w fun e w'=>∃q:InstQ,e=.returned (.agg #[.bool q.has,q.vb,q.vr,q.vd])∧q.e=p.e∧instK.own w' q∧(instK.foot q).Nodup∧(∀k∈instK.foot q,w.heap.size≤k)∧Below w.heap.size w w':=by
 obtain⟨has,vb,d,vr,c,vd,dec⟩:=p;obtain⟨h1,h2,h3⟩:txnK.At w vb d∧roundK.At w vr c∧intK.At w vd dec:=h;dsimp only[InstQ.n]at hl L M J;have E:=fun w hT=>z1W vb d w hT L (by omega)
 have G:=fun w hT=>z4r vr c w hT M (by omega)
 have I:=fun w hT=>z10 vd dec w hT J (by omega)
 obtain⟨ba,bk,rfl⟩:=h1.shape;obtain⟨va,vk,rfl⟩:=h2.shape;obtain⟨da,dk,rfl⟩:=h3.shape;have s:Below w.heap.size w ((w.alloc (.cells #[.bool has,.slice ba d.length bk,.slice va c.length vk,.slice da dec.length dk] 49)).alloc (.cells #[.bool false,.slice none 0 0,.slice none 0 0,.slice none 0 0] 49)):=by go_grown
 have B:=(Blk.new w 49 #[.bool has,.slice ba d.length bk,.slice va c.length vk,.slice da dec.length dk]).below (w':=((w.alloc (.cells #[.bool has,.slice ba d.length bk,.slice va c.length vk,.slice da dec.length dk] 49)).alloc (.cells #[.bool false,.slice none 0 0,.slice none 0 0,.slice none 0 0] 49))) (by go_grown);have R:=Blk.new (w.alloc (.cells #[.bool has,.slice ba d.length bk,.slice va c.length vk,.slice da dec.length dk] 49)) 49 #[.bool false,.slice none 0 0,.slice none 0 0,.slice none 0 0];rw[World.size_alloc]at R;go_enter Tryz.func63,Tryz.ntmps63
 go_wp2_with fail
 have ae:w.heap.size+2≤((w.alloc (.cells #[.bool has,.slice ba d.length bk,.slice va c.length vk,.slice da dec.length dk] 49)).alloc (.cells #[.bool false,.slice none 0 0,.slice none 0 0,.slice none 0 0] 49)).heap.size:=by simp
 generalize ((w.alloc (.cells #[.bool has,.slice ba d.length bk,.slice va c.length vk,.slice da dec.length dk] 49)).alloc (.cells #[.bool false,.slice none 0 0,.slice none 0 0,.slice none 0 0] 49))=W at*;have hF:w.heap.size∉[w.heap.size+1]:=by simp
 have p0:=z0g (F:=[w.heap.size+1]) (B.cell 0 _ rfl) hF;have p1:=z0g (F:=[w.heap.size+1]) (B.cell 1 _ rfl) hF;have p2:=z0g (F:=[w.heap.size+1]) (B.cell 2 _ rfl) hF;have p3:=z0g (F:=[w.heap.size+1]) (B.cell 3 _ rfl) hF;have Y:Nonempty (LatO [w.heap.size+1] W):=⟨⟨W,Out.refl _ _⟩⟩
 have hW:Below W.heap.size W W.drew:=(Below.refl _ _).drew;have z:∀w',Below W.heap.size W w'→∃u:LatO [w.heap.size+1] W,w'=u.val:=fun w' Z=>⟨⟨w',Out.of_below Z⟩,rfl⟩
 refine z0b (S:=fun w'=>∃u:LatO [w.heap.size+1] W,w'=u.val) (by kernel_rfl) ?_;refine sgr [(0,4),(5,2),(8,2)] 5 (by kernel_rfl) (z _ hW) ?_;simp only[pkE];repeat go_big_quiet_step (fail)
 refine wpQuiet_nil ?_;refine cla 4 (some 7) 39 #[.slice ba d.length bk] 4 (by kernel_rfl) ?_;refine(E _ (h1.below (s.trans (hW.mono s.size)))).mono ?_;rintro e w1 ⟨v1,q1,rfl,e1,o1,n1,g1,hb⟩;have L1:∀x∈txnK.fp v1 q1,W.heap.size≤x:=fun x hx=>by have:=g1 x hx;have:=hW.size;omega
 have M1:=o1.lt;replace hW:=hW.trans (hb.mono hW.size);clear hb g1;refine⟨_,rfl,z _ hW,?_⟩;simp only[Act.put,pjE];refine cla 7 (some 10) 118 #[.slice va c.length vk] 3 (by kernel_rfl) ?_;refine(G _ (h2.below (s.trans (hW.mono s.size)))).mono ?_;rintro e w2 ⟨v2,q2,rfl,e2,o2,n2,g2,hb⟩;have L2:∀x∈roundK.fp v2 q2,W.heap.size≤x:=fun x hx=>by have:=g2 x hx;have:=hW.size;omega
 have O:∀x∈txnK.fp v1 q1,∀y∈roundK.fp v2 q2,x≠y:=fun x hx y hy e=>by have:=M1 x hx;have:=g2 y hy;omega
 have M2:=o2.lt;have N:=hb.size;replace o1:=o1.below hb;replace hW:=hW.trans (hb.mono hW.size);clear hb g2;refine⟨_,rfl,z _ hW,?_⟩;simp only[Act.put,pjE];refine cla 10 (some 13) 119 #[.slice da dec.length dk] 2 (by kernel_rfl) ?_;refine(I _ (h3.below (s.trans (hW.mono s.size)))).mono ?_;rintro e w3 ⟨a3,c3,rfl,o3,g3,hb⟩;have L3:∀x∈intK.fp (.slice a3 dec.length c3) dec,W.heap.size≤x:=fun x hx=>by have:=g3 x hx;have:=hW.size;omega
 have T:∀x∈txnK.fp v1 q1,∀y∈intK.fp (.slice a3 dec.length c3) dec,x≠y:=fun x hx y hy e=>by have:=M1 x hx;have:=g3 y hy;omega
 have U:∀x∈roundK.fp v2 q2,∀y∈intK.fp (.slice a3 dec.length c3) dec,x≠y:=fun x hx y hy e=>by have:=M2 x hx;have:=g3 y hy;omega
 replace o1:=o1.below hb;replace o2:=o2.below hb;replace hW:=hW.trans (hb.mono hW.size);clear hb g3 M1 M2 N;obtain⟨s1,t1,rfl⟩:=o1.shape;obtain⟨s2,t2,rfl⟩:=o2.shape;refine⟨_,rfl,z _ hW,?_⟩;simp only[Act.put,pjE];refine qta 11 (some 14) (.agg #[.bool has,.slice s1 q1.length t1,.slice s2 q2.length t2,.slice a3 dec.length c3]) 1 (by kernel_rfl) (fun u _=>by kernel_rfl) (z _ hW) ?_;simp only[Act.put,pjE];have R3:=R.below hW;refine ona 12 0 rfl (by kernel_rfl) ?_;have X:=R3.row #[.bool has,.slice s1 q1.length t1,.slice s2 q2.length t2,.slice a3 dec.length c3];have A:=z0f w3 (w.heap.size+1) #[.bool has,.slice s1 q1.length t1,.slice s2 q2.length t2,.slice a3 dec.length c3];have D:Out [w.heap.size+1] W (w3.setRow (w.heap.size+1) #[.bool has,.slice s1 q1.length t1,.slice s2 q2.length t2,.slice a3 dec.length c3]):=(Out.of_below hW).trans A;refine z0d (by kernel_rfl) 49 _ _ rfl _ #[.bool has,.slice s1 q1.length t1,.slice s2 q2.length t2,.slice a3 dec.length c3] rfl rfl 49 _ R3 z0l rfl (by simp[Value.oneCell']) ?_
 go_wp2
 refine ThenGo.to ⟨⟨⟨_,D⟩,rfl⟩,?_⟩;refine z0e (by kernel_rfl) ?_;have C:∀x,W.heap.size≤x→x∉[w.heap.size+1]:=fun x hx=>by simp only[List.mem_singleton];omega
 have aa:=o1.out A (fun x hx=>C x (L1 x hx));have ab:=o2.out A (fun x hx=>C x (L2 x hx));have ad:=o3.out A (fun x hx=>C x (L3 x hx));have V:Below w.heap.size w (w3.setRow (w.heap.size+1) #[.bool has,.slice s1 q1.length t1,.slice s2 q2.length t2,.slice a3 dec.length c3]):=z0c (s.trans (hW.mono s.size)) (by omega) _;clear p0 p1 p2 p3 Y z E G I A D o1 o2 o3 R3;generalize w3.setRow (w.heap.size+1) #[.bool has,.slice s1 q1.length t1,.slice s2 q2.length t2,.slice a3 dec.length c3]=w4 at*;obtain⟨p0,p1,p2,p3⟩:=X.cel4
 go_wp2
 refine bodyPost_ret (v:=.agg #[.bool has,.slice s1 q1.length t1,.slice s2 q2.length t2,.slice a3 dec.length c3]) (by simp[results,Tryz.results63,go_sem,p0,p1,p2,p3]) rfl ?_;refine⟨⟨has,.slice s1 q1.length t1,q1,.slice s2 q2.length t2,q2,.slice a3 dec.length c3,dec⟩,rfl,?_,⟨aa,ab,ad⟩,?_,?_,V⟩
 ·simp only[InstQ.e,e1,e2]
 ·exact List.nodup_append.2 ⟨n1,List.nodup_append.2 ⟨n2,z0z _ _,U⟩,fun x hx y hy=>by
   rcases List.mem_append.1 hy with hy|hy
   ·exact O x hx y hy
   ·exact T x hx y hy⟩
 ·intro x hx;rcases List.mem_append.1 hx with hx|hx
  ·have:=L1 x hx;omega
  ·rcases List.mem_append.1 hx with hx|hx
   ·have:=L2 x hx;omega
   ·have:=L3 x hx;omega
theorem z2s(v:Value)(ps:List InstQ)(w:World)(h:instK.At w v ps)(af:(∀p∈ps,(∀t∈p.batch,0<t.acts.length)∧(∀r∈p.rounds,0<r.rep.length∧0<r.pro.length)∧0<p.dec.length))(hl:(ps.length+nmL InstQ.n ps)≤1048576):
  Calls Tryz.prog 42 #[v] w fun e w'=>∃v' qs,e=.returned v'∧qs.map InstQ.e=ps.map InstQ.e∧instK.Own w' v' qs∧(instK.fp v' qs).Nodup∧(∀k∈instK.fp v' qs,w.heap.size≤k)∧Below w.heap.size w w':=by
 obtain⟨a,cap,rfl⟩:=h.shape;obtain⟨i0,hi,aw,ax,ay⟩:=info_parts z0Y;obtain⟨ag,ah⟩:=Kind.own_nil (K:=instK) w;have X:Hid ((instK.fp (.slice none 0 0) ([]:List InstQ)).Nodup∧∀k∈instK.fp (.slice none 0 0) ([]:List InstQ),w.heap.size≤k):=by
  rw[ah];exact⟨by simp,by simp⟩
 have ae:Below w.heap.size w w:=Below.refl _ _;clear ah;go_enter Tryz.func42,Tryz.ntmps42
 go_wp2
 go_loopw[3,8] (fun v j wr=>∃ (k:Nat) (qs:List InstQ),k≤ps.length∧j=.int .i64 k∧Hid (qs.map InstQ.e=(ps.take k).map InstQ.e)∧instK.Own wr v qs∧Hid ((instK.fp v qs).Nodup∧∀k∈instK.fp v qs,w.heap.size≤k)∧Below w.heap.size w wr) (fun _ j _=>ps.length-(intOf j).toNat)
 case atStart=>exact⟨0,[],Nat.zero_le _,rfl,(rfl:_=_),ag,X,ae⟩
 case round=>
  clear X ag ae;obtain⟨k,qs,hk,rfl,HE,hO,HN,hb⟩:=hrel;obtain⟨sa,sc,rfl⟩:=hO.shape;have aa:Hid (qs.length=k):=by
   have:=congrArg List.length HE.out;rw[List.length_map,List.length_map,List.length_take]at this;show qs.length=k;omega
  by_cases L:k<ps.length
  ·obtain⟨b,aA,rfl,aG,hc,D⟩:=(h.below hb).cell (by decide) k L;have A:∀j x,(instK.cells ps[k])[j]?=some x→wr.cell? ⟨b,aA+k*4+j,none⟩=some x:=hc;have c0:=A 0 (.bool ps[k].has) rfl;have c1:=A 1 ps[k].vb rfl;have c2:=A 2 ps[k].vr rfl;have c3:=A 3 ps[k].vd rfl;rw[Nat.add_zero]at c0;have az:=z2J InstQ.n ps k L;have d:=af _ (List.getElem_mem L);have Z:Hid (∀p':InstQ,p'.e=InstQ.e ps[k]→(qs++[p']).map InstQ.e=(ps.take (k+1)).map InstQ.e):=fun p' ar=>by
    rw[List.take_succ_eq_append_getElem L,List.map_append,List.map_append,HE.out,List.map_singleton,List.map_singleton,ar]
   clear hc A;have M:=z1P ps[k];have V:=fun w h=>M w h (by omega) d.1 d.2.1 d.2.2
   clear M HE;generalize ps[k]=p at*;obtain⟨has,vb,y,vr,s,vd,dec⟩:=p;obtain⟨ba,bk,rfl⟩:∃a c,vb=.slice a y.length c:=D.1.shape;obtain⟨va,vk,rfl⟩:∃a c,vr=.slice a s.length c:=D.2.1.shape;obtain⟨da,dk,rfl⟩:∃a c,vd=.slice a dec.length c:=D.2.2.shape;dsimp only at c0 c1 c2 c3 V;have J:Below wr.heap.size wr (wr.alloc (.cells #[.bool has,.slice ba y.length bk,.slice va s.length vk,.slice da dec.length dk] 49)):=by go_grown
   have aE:=instK.rd_below D J;replace hO:=hO.below J;replace hb:=hb.trans (J.mono hb.size)
   go_wp2_with fail
   clear c0 c1 c2 c3 J;generalize wr.alloc (.cells #[.bool has,.slice ba y.length bk,.slice va s.length vk,.slice da dec.length dk] 49)=Y at*;have W:Hid (∀x∈instK.fp (.slice sa qs.length sc) qs,x<Y.heap.size):=hO.lt;have ab:Hid (w.heap.size≤Y.heap.size):=hb.size;refine(V Y aE).mono ?_;rintro e w2 ⟨q,rfl,eq,oq,nq,gq,G⟩;replace hO:=hO.below G;replace hb:=hb.trans (G.mono hb.size);have aF:=G.size;clear V G;obtain⟨qh,aB,qb,aD,qr,aC,qd⟩:=q;obtain⟨x1,y1,rfl⟩:∃a c,aB=.slice a qb.length c:=oq.1.shape;obtain⟨x2,y2,rfl⟩:∃a c,aD=.slice a qr.length c:=oq.2.1.shape;obtain⟨x3,y3,rfl⟩:∃a c,aC=.slice a qd.length c:=oq.2.2.shape;have z:Below w2.heap.size w2 (w2.alloc (.cells #[.bool qh,.slice x1 qb.length y1,.slice x2 qr.length y2,.slice x3 qd.length y3] 49)):=by go_grown
   have T:=hO.below z;have ad:=instK.own_out (F:=[]) oq (Out.of_below z) (fun _ _=>by simp);have I:=hb.trans (z.mono hb.size);have ao:Y.heap.size≤(w2.alloc (.cells #[.bool qh,.slice x1 qb.length y1,.slice x2 qr.length y2,.slice x3 qd.length y3] 49)).heap.size:=by have:=z.size;omega
   clear hO oq;have E:=T.1
   go_wp2_with (at_builtin;refine wpList_append_own_at _ rfl _ _ 24 rfl 0 49 i0 (.agg #[.bool false,.slice none 0 0,.slice none 0 0,.slice none 0 0]) 4 80 Tryz.underlying24 hi aw ax ay rfl (by decide) _ qs.length (instK.row qs) rfl E ⟨w2.heap.size,0,none⟩ 1 1 [.bool qh,.slice x1 qb.length y1,.slice x2 qr.length y2,.slice x3 qd.length y3] rfl rfl ?c1 ?c2 ?c3 ?c4 ?c5 ?_)
   all_goals try(case c1=>intro j u hj;match j,hj with|0,hj=>simp at hj;subst hj;simp[Addr.add]|1,hj=>simp at hj;subst hj;simp[Addr.add]|2,hj=>simp at hj;subst hj;simp[Addr.add]|3,hj=>simp at hj;subst hj;simp[Addr.add])
   all_goals try(case c2=>intro u hu;simp at hu;rcases hu with rfl|rfl|rfl|rfl<;>rfl)
   all_goals try(case c3=>have:=aa.out;unfold maxLen;omega)
   all_goals try(case c4=>have:=aa.out;omega)
   all_goals try(case c5=>first|omega|simp)
   intro v' w5 O C aj U;clear aj E;rw[show w2.heap.size+1=(w2.alloc (.cells #[.bool qh,.slice x1 qb.length y1,.slice x2 qr.length y2,.slice x3 qd.length y3] 49)).heap.size from(World.size_alloc _ _).symm]at U;generalize au:w2.alloc (.cells #[.bool qh,.slice x1 qb.length y1,.slice x2 qr.length y2,.slice x3 qd.length y3] 49)=WA at*;clear au;obtain⟨an,ai,N,ak⟩:=T.snoc (p:=(⟨qh,.slice x1 qb.length y1,qb,.slice x2 qr.length y2,qr,.slice x3 qd.length y3,qd⟩:InstQ)) HN.out.1 HN.out.2 ad nq (fun x hx av=>by have:=W.out x av;have:=gq x hx;omega) (fun x hx=>by have:=gq x hx;have:=ab.out;omega) I.size O C U;have ap:Below w.heap.size w w5:=Out.keep I ak I.size (fun x hx=>HN.out.2 x (by simp only[Kind.fp,List.mem_append];exact Or.inl hx));have al:Hid ((qs++[(⟨qh,.slice x1 qb.length y1,qb,.slice x2 qr.length y2,qr,.slice x3 qd.length y3,qd⟩:InstQ)]).map InstQ.e=(ps.take (k+1)).map InstQ.e):=Z.out _ eq;have am:Hid ((instK.fp v' (qs++[(⟨qh,.slice x1 qb.length y1,qb,.slice x2 qr.length y2,qr,.slice x3 qd.length y3,qd⟩:InstQ)])).Nodup∧∀k∈instK.fp v' (qs++[(⟨qh,.slice x1 qb.length y1,qb,.slice x2 qr.length y2,qr,.slice x3 qd.length y3,qd⟩:InstQ)]),w.heap.size≤k):=⟨ai,N⟩
   clear Z HN W ab ad T I O C U ak ai N D hb z az d ao gq nq eq
   go_wp2
   go_roundw
   case rel=>exact⟨k+1,_,by omega,by go_num,al,an,am,ap⟩
   case measure=>simp[intOf];omega
  ·have aq:k=ps.length:=by omega
   subst aq;have hE:=HE.out;rw[List.take_length]at hE;clear HE
   go_wp2
   go_ret;exact⟨_,qs,rfl,hE,hO,HN.out.1,HN.out.2,hb⟩
def z0D:InstE:=⟨false,[],[],[]⟩
def z1u:List InstE→Int
 |[]=>0
 |x::r=>if insF x=0 then(if 0<r.length∧outV x.dec=3 then 8 else z1u r)else insF x
def ordF(ds:List InstE):Int:=if ds.length<1∨4<ds.length then 2 else z1u ds
def z1z(ds:List InstE):InstE:=ds.getD (ds.length-1) z0D
def decN(ds:List InstE):Nat:=if outV (z1z ds).dec=3 then ds.length-1 else ds.length
theorem z6B(ds:List InstE)(k:Nat)(hk:k<ds.length):ds.drop k=ds.getD k z0D::ds.drop (k+1):=by
 rw[List.drop_eq_getElem_cons hk];simp[List.getD,hk]
theorem z51(ds:List InstE)(k:Nat)(hk:k<ds.length)(h:insF (ds.getD k z0D)≠0):z1u (ds.drop k)=insF (ds.getD k z0D):=by
 rw[z6B ds k hk,z1u,if_neg h]
theorem z4X(ds:List InstE)(k:Nat)(hk:k+1<ds.length)(h:insF (ds.getD k z0D)=0)(h3:outV (ds.getD k z0D).dec=3):z1u (ds.drop k)=8:=by
 rw[z6B ds k (by omega),z1u,if_pos h,if_pos ⟨by simp;omega,h3⟩]
theorem z4Y(ds:List InstE)(k:Nat)(hk:k<ds.length)(h:insF (ds.getD k z0D)=0)(h3:¬(k+1<ds.length∧outV (ds.getD k z0D).dec=3)):z1u (ds.drop k)=z1u (ds.drop (k+1)):=by
 rw[z6B ds k hk,z1u,if_pos h,if_neg];rintro⟨h1,h2⟩;exact h3 ⟨by simp at h1;omega,h2⟩
theorem z52(ds:List InstE)(k:Nat)(hk:ds.length≤k):z1u (ds.drop k)=0:=by
 rw[List.drop_of_length_le hk];rfl
theorem z4s:∀ (ds:List InstE),z1u ds=0↔∀k,k<ds.length→insF (ds.getD k z0D)=0∧(k+1<ds.length→outV (ds.getD k z0D).dec≠3)
 |[]=>by simp[z1u]
 |x::r=>by
  rw[z1u];constructor
  ·intro h k hk;by_cases h0:insF x=0
   ·rw[if_pos h0]at h;by_cases h1:0<r.length∧outV x.dec=3
    ·rw[if_pos h1]at h;exact absurd h (by decide)
    ·rw[if_neg h1]at h
     cases k with
     |zero=>exact⟨h0,fun hl h3=>h1 ⟨by simpa using hl,h3⟩⟩
     |succ k=>
      have:=(z4s r).1 h k (by simpa using hk);simp only[List.getD_cons_succ,List.length_cons];exact⟨this.1,fun hl=>this.2 (by omega)⟩
   ·rw[if_neg h0]at h;exact absurd h h0
  ·intro h;have h0:=h 0 (by simp);have e0:insF x=0:=h0.1;rw[if_pos e0,if_neg (fun e=>h0.2 (by simpa using e.1) e.2)];refine(z4s r).2 (fun k hk=>?_);have:=h (k+1) (by simpa using hk);simp only[List.getD_cons_succ,List.length_cons]at this;exact⟨this.1,fun hl=>this.2 (by omega)⟩
theorem z0P(ds:List InstE):ordF ds=0↔(1≤ds.length∧ds.length≤4)∧∀k,k<ds.length→insF (ds.getD k z0D)=0∧(k+1<ds.length→outV (ds.getD k z0D).dec≠3):=by
 unfold ordF;by_cases h:ds.length<1∨4<ds.length
 ·rw[if_pos h];constructor
  ·intro h;exact absurd h (by decide)
  ·rintro⟨h1,_⟩;omega
 ·rw[if_neg h,z4s];constructor
  ·intro h2;exact⟨by omega,h2⟩
  ·rintro⟨_,h2⟩;exact h2
theorem z1m{ds:List InstE}(h:ordF ds=0):∀x∈ds,insF x=0:=by
 intro x hx;obtain⟨k,hk,rfl⟩:=List.getElem_of_mem hx;have:=(((z0P ds).1 h).2 k hk).1;simpa[List.getD,hk]using this
theorem z4t(ds:List InstE):decN ds≤ds.length:=by
 unfold decN;split<;>omega
def stF(a b:TxnD):Bool:=(a.id==b.id)||((a.session==b.session) && (a.seq==b.seq))
def knw(acc:List TxnD)(t:TxnD):Bool:=acc.any (fun a=>stF a t)
def onc:List TxnD→List TxnD→List TxnD
 |acc,[]=>acc
 |acc,t::r=>onc (if knw acc t then acc else acc++[t]) r
def z2P(ds:List InstE):List TxnD:=ds.flatMap (fun x=>if outV x.dec=1 then x.batch else [])
def defL(ds:List InstE)(n:Nat):List TxnD:=onc [] (z2P (ds.take n))
theorem z1r:∀ (xs ys acc:List TxnD),onc acc (xs++ys)=onc (onc acc xs) ys
 |[],_,_=>rfl
 |t::r,ys,acc=>by
  simp only[List.cons_append,onc];exact z1r r ys _
theorem z8z:∀ (xs acc:List TxnD),∃zs,onc acc xs=acc++zs
 |[],acc=>⟨[],by simp[onc]⟩
 |t::r,acc=>by
  simp only[onc];obtain⟨zs,e⟩:=z8z r (if knw acc t then acc else acc++[t]);rw[e];split
  ·exact⟨zs,rfl⟩
  ·exact⟨t::zs,by simp⟩
theorem z6C:∀ (xs acc:List TxnD),∀t∈onc acc xs,t∈acc∨t∈xs
 |[],acc,t,h=>Or.inl h
 |x::r,acc,t,h=>by
  simp only[onc]at h;rcases z6C r _ t h with h|h
  ·split at h
   ·exact Or.inl h
   ·rcases List.mem_append.1 h with h|h
    ·exact Or.inl h
    ·simp only[List.mem_singleton]at h;exact Or.inr (by rw[h];simp)
  ·exact Or.inr (List.mem_cons_of_mem _ h)
theorem z5m(xs acc:List TxnD):(onc acc xs).length≤acc.length+xs.length:=by
 induction xs generalizing acc with
 |nil=>simp[onc]
 |cons t r ih=>
  simp only[onc,List.length_cons];have:=ih (if knw acc t then acc else acc++[t]);split at this
  ·rename_i h;rw[if_pos h];omega
  ·rename_i h;rw[if_neg h];simp only[List.length_append,List.length_singleton]at this;omega
theorem z8A(ds:List InstE)(n m:Nat)(h:n≤m):∃zs,defL ds m=defL ds n++zs:=by
 have e:ds.take m=ds.take n++(ds.take m).drop n:=by
  have:=(List.take_append_drop n (ds.take m)).symm
  rwa [List.take_take,Nat.min_eq_left h]at this
 unfold defL;rw[e];unfold z2P;rw[List.flatMap_append,z1r];exact z8z _ _
end Go.Proofs.YtciofogeiohleaaGreatDoor

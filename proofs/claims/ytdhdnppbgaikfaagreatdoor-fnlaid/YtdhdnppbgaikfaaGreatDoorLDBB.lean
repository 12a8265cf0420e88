/- Texts joined, with what the laws reach alone. -/
import Derived.Test.YtdhdnppbgaikfaaGreatDoorLDBA
import Derived.Test.YtdhdnppbgaikfaaGreatDoorLDAZ
import Derived.Deep.Slices
import Derived.Deep.Strs
import Derived.ProofKit
import Derived.Test.YtdhdnppbgaikfaaGreatDoorRows
import Derived.Lib.LaidU8
import Derived.OpenVars
import Derived.LaidMore
import Derived.Stop.LaidErr
import Derived.Stop.Joined
set_option linter.unusedVariables false
set_option linter.unusedSimpArgs false
namespace Go.Proofs.YtdhdnppbgaikfaaGreatDoor
open Go.RowKit
open Go.BigFrame
set_option maxRecDepth 100000
set_option maxRecDepth 100000 in
set_option maxHeartbeats 8000000 in
theorem specLayVotes_any (p:InstQ) (va0:Option Addr) (cap0:Nat) (L:List VoteD) (w:World) (h:instK.rd w p) (hl:p.n≤1048576) (hV:VoteRow w va0 L) (hl' : L.length≤1048576) :
  Calls Tryz.prog 9 #[.agg #[.bool p.has,p.vb,p.vr,p.vd],.slice va0 L.length cap0] w fun e w' => ∃ q:InstQ,e=.returned (.agg (resC (lvC p.e L) 0 false false 0 q))∧q.e=lvI p.e L∧instK.own w' q∧(instK.foot q).Nodup∧(∀ k∈instK.foot q,w.heap.size≤k)∧Below w.heap.size w w' := by
 have hB:Below w.heap.size w ((w.alloc (.cells #[.bool p.has,p.vb,p.vr,p.vd] 28)).alloc (.cells #[.int .i64 0,.int .i64 0,.bool false,.bool false,.int .i64 0,.bool false,.slice none 0 0,.slice none 0 0,.slice none 0 0] 39)):=by go_grown
 have Rb:=Blk.new (w.alloc (.cells #[.bool p.has,p.vb,p.vr,p.vd] 28)) 39 #[.int .i64 0,.int .i64 0,.bool false,.bool false,.int .i64 0,.bool false,.slice none 0 0,.slice none 0 0,.slice none 0 0]
 rw [World.size_alloc] at Rb
 have hws:w.heap.size + 2≤((w.alloc (.cells #[.bool p.has,p.vb,p.vr,p.vd] 28)).alloc (.cells #[.int .i64 0,.int .i64 0,.bool false,.bool false,.int .i64 0,.bool false,.slice none 0 0,.slice none 0 0,.slice none 0 0] 39)).heap.size:=by simp
 have hP:InstP ((w.alloc (.cells #[.bool p.has,p.vb,p.vr,p.vd] 28)).alloc (.cells #[.int .i64 0,.int .i64 0,.bool false,.bool false,.int .i64 0,.bool false,.slice none 0 0,.slice none 0 0,.slice none 0 0] 39)) w.heap.size 0 p:=⟨(box4_new w _ _ _ _ 28).below (by go_grown),instK.rd_below h hB⟩
 have hf1:=l6Fault_any w.heap.size 0 p _ hP hl
 have hcp:=fun (h0:insF p.e=0) w h=>l6Copy_any p w h hl (ins_low h0).1 (ins_low h0).2.1 (ins_low h0).2.2
 have HFR:Hid (insF p.e=0→Frm p.e.rounds p.e.dec∧(∀ rs dec,Frm rs dec→InstE.n ⟨p.e.has,p.e.batch,rs,dec⟩≤60)):=fun h0=>⟨frm_of h0,fun rs dec f=>form_small h0 f.w f.h4 f.d⟩
 have HDE:Hid _:=lv_facts p.e L
 generalize lvC p.e L=D at *
 generalize lvI p.e L=E at *
 generalize hpe:p.e=pe at *
 generalize insF pe=C at *
 have hLi:(L.length:Int)≤1048576:=by omega
 go_enter Tryz.func9,Tryz.ntmps9
 go_wp2_with fail
 generalize ((w.alloc (.cells #[.bool p.has,p.vb,p.vr,p.vd] 28)).alloc (.cells #[.int .i64 0,.int .i64 0,.bool false,.bool false,.int .i64 0,.bool false,.slice none 0 0,.slice none 0 0,.slice none 0 0] 39))=W at *
 refine hf1.mono ?_
 rintro e w1 ⟨rfl,hb1⟩
 replace hB:=hB.trans (hb1.mono hB.size)
 replace Rb:=Rb.below hb1
 have hP1:=hP.below hb1
 have hws1:w.heap.size + 2≤w1.heap.size:=by have:=hb1.size;omega
 clear hf1 hb1 hP
 by_cases h0:C=0
 case neg=>
  have E1:Hid (D=C∧E=ine0):=HDE.out.1 h0
  have h0' : (C != 0)=true:=by simpa using h0
  clear HDE h0 hcp HFR
  go_wp2_with fail
  refine (l6Bad_any C _).mono ?_
  rintro e w8 ⟨rfl,hb8⟩
  replace hB:=hB.trans (hb8.mono hB.size)
  replace Rb:=Rb.below hb8
  clear hb8
  have Rr:=Rb.row #[.int .i64 C,.int .i64 0,.bool false,.bool false,.int .i64 0,.bool false,.slice none 0 0,.slice none 0 0,.slice none 0 0]
  have hBr:=below_row hB (g:=w.heap.size + 1) (by omega) #[.int .i64 C,.int .i64 0,.bool false,.bool false,.int .i64 0,.bool false,.slice none 0 0,.slice none 0 0,.slice none 0 0]
  have hsr:(Tryz.prog.info? 39).map (·.size)=some (#[.int .i64 C,.int .i64 0,.bool false,.bool false,.int .i64 0,.bool false,.slice none 0 0,.slice none 0 0,.slice none 0 0]:Array Value).size:=sz_res
  go_wp2_with (first | (refine st_row (by kernel_rfl) 39 _ _ rfl _ #[.int .i64 C,.int .i64 0,.bool false,.bool false,.int .i64 0,.bool false,.slice none 0 0,.slice none 0 0,.slice none 0 0] rfl rfl 39 _ Rb hsr rfl (by simp [Value.oneCell']) ?_))
  obtain ⟨q0,q1,q2,q3,q4,q5,q6,q7,q8⟩:=Rr.cel9
  exact bodyPost_ret (v:=.agg #[.int .i64 C,.int .i64 0,.bool false,.bool false,.int .i64 0,.bool false,.slice none 0 0,.slice none 0 0,.slice none 0 0]) (by simp [results,Tryz.results9,go_sem,q0,q1,q2,q3,q4,q5,q6,q7,q8]) rfl ⟨inst0,by rw [E1.out.1];rfl,E1.out.2.symm,inst0_own _,inst0_nd,fun k hk=>by rw [inst0_ft] at hk;simp at hk,hBr⟩

 case pos=>
  subst h0
  obtain ⟨hFr,hSm⟩:=HFR.out rfl
  have HSM:Hid (∀ rs dec,Frm rs dec→InstE.n ⟨pe.has,pe.batch,rs,dec⟩≤60):=hSm
  have HDF:Hid ((40 < L.length→D=2∧E=ine0)∧(¬ 40 < L.length→(layL pe.rounds pe.dec L).1≠0→D=(layL pe.rounds pe.dec L).1∧E=ine0)∧(¬ 40 < L.length→(layL pe.rounds pe.dec L).1=0→insF (layE pe L)≠0→D=insF (layE pe L)∧E=ine0)∧(¬ 40 < L.length→(layL pe.rounds pe.dec L).1=0→insF (layE pe L)=0→D=0∧E=layE pe L)):=⟨HDE.out.2.1 rfl,HDE.out.2.2.1 rfl,HDE.out.2.2.2.1 rfl,HDE.out.2.2.2.2 rfl⟩
  clear HDE HFR hSm
  by_cases h40:40 < L.length
  case pos=>
   have E1:Hid (D=2∧E=ine0):=HDF.out.1 h40
   have h40' : (40:Int) < (L.length:Int):=by omega
   clear HDF hcp
   go_wp2_with fail
   refine (l6Bad_any 2 _).mono ?_
   rintro e w8 ⟨rfl,hb8⟩
   replace hB:=hB.trans (hb8.mono hB.size)
   replace Rb:=Rb.below hb8
   clear hb8
   have Rr:=Rb.row #[.int .i64 2,.int .i64 0,.bool false,.bool false,.int .i64 0,.bool false,.slice none 0 0,.slice none 0 0,.slice none 0 0]
   have hBr:=below_row hB (g:=w.heap.size + 1) (by omega) #[.int .i64 2,.int .i64 0,.bool false,.bool false,.int .i64 0,.bool false,.slice none 0 0,.slice none 0 0,.slice none 0 0]
   have hsr:(Tryz.prog.info? 39).map (·.size)=some (#[.int .i64 2,.int .i64 0,.bool false,.bool false,.int .i64 0,.bool false,.slice none 0 0,.slice none 0 0,.slice none 0 0]:Array Value).size:=sz_res
   go_wp2_with (first | (refine st_row (by kernel_rfl) 39 _ _ rfl _ #[.int .i64 2,.int .i64 0,.bool false,.bool false,.int .i64 0,.bool false,.slice none 0 0,.slice none 0 0,.slice none 0 0] rfl rfl 39 _ Rb hsr rfl (by simp [Value.oneCell']) ?_))
   obtain ⟨q0,q1,q2,q3,q4,q5,q6,q7,q8⟩:=Rr.cel9
   exact bodyPost_ret (v:=.agg #[.int .i64 2,.int .i64 0,.bool false,.bool false,.int .i64 0,.bool false,.slice none 0 0,.slice none 0 0,.slice none 0 0]) (by simp [results,Tryz.results9,go_sem,q0,q1,q2,q3,q4,q5,q6,q7,q8]) rfl ⟨inst0,by rw [E1.out.1];rfl,E1.out.2.symm,inst0_own _,inst0_nd,fun k hk=>by rw [inst0_ft] at hk;simp at hk,hBr⟩

  case neg=>
   have h40' : ¬ (40:Int) < (L.length:Int):=by omega
   have HDG:Hid (((layL pe.rounds pe.dec L).1≠0→D=(layL pe.rounds pe.dec L).1∧E=ine0)∧((layL pe.rounds pe.dec L).1=0→insF (layE pe L)≠0→D=insF (layE pe L)∧E=ine0)∧((layL pe.rounds pe.dec L).1=0→insF (layE pe L)=0→D=0∧E=layE pe L)):=⟨HDF.out.2.1 h40,HDF.out.2.2.1 h40,HDF.out.2.2.2 h40⟩
   clear HDF
   obtain ⟨pa,pk,hpb⟩:∃ a c,p.vb=.slice a p.batch.length c:=h.1.shape
   obtain ⟨pa2,pk2,hpr⟩:∃ a c,p.vr=.slice a p.rounds.length c:=h.2.1.shape
   obtain ⟨pa3,pk3,hpd⟩:∃ a c,p.vd=.slice a p.dec.length c:=h.2.2.shape
   obtain ⟨c0,c1,c2,c3⟩:=hP1.box.zero
   have hrd1:=hP1.rd
   rw [hpb] at c1
   rw [hpr] at c2
   rw [hpd] at c3
   have hcp1:=hcp (by trivial) w1 hrd1
   rw [hpb,hpr,hpd] at hcp1
   go_wp2_with fail
   clear c0 c1 c2 c3
   refine hcp1.mono ?_
   rintro e w3 ⟨q,rfl,eq,oq,nq,gq,hb3⟩
   clear hcp hcp1 hrd1 hP1
   replace hB:=hB.trans (hb3.mono hB.size)
   replace Rb:=Rb.below hb3
   have U3:=fun k hk=>instK.own_lt oq k hk
   have L3:∀ k∈instK.foot q,w.heap.size + 2≤k:=fun k hk=>by have:=gq k hk;omega
   have hs3:w.heap.size + 2≤w3.heap.size:=by have:=hb3.size;omega
   clear hb3 gq
   obtain ⟨qh,qb,qbs,qr,qrs,qd,qds⟩:=q
   obtain ⟨s1,t1,rfl⟩:∃ a c,qb=.slice a qbs.length c:=oq.1.shape
   obtain ⟨s2,t2,rfl⟩:∃ a c,qr=.slice a qrs.length c:=oq.2.1.shape
   obtain ⟨s3,t3,rfl⟩:∃ a c,qd=.slice a qds.length c:=oq.2.2.shape
   have BI:=Blk.new w3 28 #[.bool qh,.slice s1 qbs.length t1,.slice s2 qrs.length t2,.slice s3 qds.length t3]
   have hba:Below w3.heap.size w3 (w3.alloc (.cells #[.bool qh,.slice s1 qbs.length t1,.slice s2 qrs.length t2,.slice s3 qds.length t3] 28)):=by go_grown
   replace oq:=instK.own_out (F:=[]) oq (Out.of_below hba) (fun _ _=>by simp)
   replace Rb:=Rb.below hba
   replace hB:=hB.trans (hba.mono hB.size)
   have hgk:∀ k∈instK.foot (⟨qh,.slice s1 qbs.length t1,qbs,.slice s2 qrs.length t2,qrs,.slice s3 qds.length t3,qds⟩:InstQ),w.heap.size + 2≤k∧k≠w3.heap.size:=fun k hk=>⟨L3 k hk,by have:=U3 k hk;omega⟩
   clear hba U3 L3
   have HQ0:Hid (((⟨qh,.slice s1 qbs.length t1,qbs,.slice s2 qrs.length t2,qrs,.slice s3 qds.length t3,qds⟩:InstQ)).e=pe):=eq
   clear eq
   go_wp2_with fail
   generalize w3.alloc (.cells #[.bool qh,.slice s1 qbs.length t1,.slice s2 qrs.length t2,.slice s3 qds.length t3] 28)=w4 at *
   have hg4:=BI.lt
   go_loopw [7] (fun j wr=>∃ (m:Nat) (q1:InstQ),m≤L.length∧j=.int .i64 m∧Hid ((layL pe.rounds pe.dec (L.take m)).1=0)∧Hid (q1.e=⟨pe.has,pe.batch,(layL pe.rounds pe.dec (L.take m)).2.1,(layL pe.rounds pe.dec (L.take m)).2.2⟩)∧Blk wr w3.heap.size 28 #[.bool q1.has,q1.vb,q1.vr,q1.vd]∧instK.own wr q1∧Hid ((instK.foot q1).Nodup∧∀ k∈instK.foot q1,w.heap.size + 2≤k∧k≠w3.heap.size)∧Blk wr (w.heap.size + 1) 39 #[.int .i64 0,.int .i64 0,.bool false,.bool false,.int .i64 0,.bool false,.slice none 0 0,.slice none 0 0,.slice none 0 0]∧Below w.heap.size w wr) (fun j _=>L.length - (intOf j).toNat)
   case atStart=>exact ⟨0,(⟨qh,.slice s1 qbs.length t1,qbs,.slice s2 qrs.length t2,qrs,.slice s3 qds.length t3,qds⟩:InstQ),Nat.zero_le _,rfl,(rfl:(0:Int)=0),HQ0.out,BI,oq,⟨nq,hgk⟩,Rb,hB⟩
   case round=>
    obtain ⟨m,q1,hm,rfl,HM,HE1,B1,o1,HN1,R1,hb⟩:=hrel
    clear BI oq nq hgk HQ0 Rb hB
    have hR1:=R1.lt
    have hg1:=B1.lt
    have hFm:Frm (layL pe.rounds pe.dec (L.take m)).2.1 (layL pe.rounds pe.dec (L.take m)).2.2:=hFr.all _
    by_cases hlt:m < L.length
    ·obtain ⟨bb,off,rfl,hbs,c0,c1,c2,c3⟩:=hV.at m hlt
     have HT:=layL_take (rs:=pe.rounds) (dec:=pe.dec) m hlt HM.out
     have HST:=fun h=>layL_stop (rs:=pe.rounds) (dec:=pe.dec) (L:=L) (m + 1) h
     have he1:=HE1.out
     generalize (layL pe.rounds pe.dec (L.take m)).2.1=ra at *
     generalize (layL pe.rounds pe.dec (L.take m)).2.2=rb at *
     generalize L.getD m voteNo=z at *
     obtain ⟨vk,vr,vn,vv⟩:=z
     dsimp only at c0 c1 c2 c3 HT
     have hX:Box4 wr bb (off + m * 4) (.int .i64 vk) (.int .i64 vr) (.int .i64 vn) (.int .i64 vv):=⟨cellB c0 hb,cellB c1 hb,cellB c2 hb,cellB c3 hb⟩
     have hlf:=fun w hX=>l10Fault_any bb (off + m * 4) vk vr vn vv w hX
     have e5:q1.e.rounds=ra:=by rw [he1]
     have e6:q1.e.dec=rb:=by rw [he1]
     have e7:q1.e.has=pe.has:=by rw [he1]
     have e8:q1.e.batch=pe.batch:=by rw [he1]
     have hone:=fun w hG oq hB hv=>l10One_any w3.heap.size q1 bb (off + m * 4) vk vr vn vv w hG oq HN1.out.1 (fun hh=>(HN1.out.2 _ hh).2 rfl) (by rw [e5,e6];exact hFm) hB (by omega) (fun hh=>by have:=(HN1.out.2 _ hh).1;omega) hv
     rw [e5,e6,e7,e8] at hone
     have HV0:Hid (voteF ⟨vk,vr,vn,vv⟩≠0→lay1 ra rb ⟨vk,vr,vn,vv⟩=voteF ⟨vk,vr,vn,vv⟩):=fun hh=>if_neg hh
     have HHT:Hid (_∧_):=⟨HT,HST⟩
     have hki:(m:Int) < (L.length:Int):=by omega
     clear HT HST HM c0 c1 c2 c3 HE1 he1 e5 e6 e7 e8
     generalize lay1 ra rb ⟨vk,vr,vn,vv⟩=L1 at *
     generalize hVF:voteF ⟨vk,vr,vn,vv⟩=VF at *
     go_wp2_with fail
     refine (hlf wr hX).mono ?_
     rintro e w5 ⟨rfl,hw5⟩
     replace hw5:=hw5.symm
     subst hw5
     clear hlf
     by_cases hvf:VF=0
     case neg=>
      have hvf' : (VF != 0)=true:=by simpa using hvf
      have e9:=HV0.out hvf
      have h5:=HHT.out.1
      rw [e9,if_neg hvf] at h5
      have h6:=HHT.out.2 (by rw [h5];exact hvf)
      have E1:Hid (D=VF∧E=ine0):=by
       have:=HDG.out.1 (by rw [h6,h5];exact hvf)
       rw [h6,h5] at this
       exact this
      clear HHT h5 h6 HDG hone HV0 hVF
      go_wp2_with fail
      refine (l6Bad_any VF _).mono ?_
      rintro e w8 ⟨rfl,hb8⟩
      replace hb:=hb.trans (hb8.mono hb.size)
      replace R1:=R1.below hb8
      clear hb8
      have Rr:=R1.row #[.int .i64 VF,.int .i64 0,.bool false,.bool false,.int .i64 0,.bool false,.slice none 0 0,.slice none 0 0,.slice none 0 0]
      have hBr:=below_row hb (g:=w.heap.size + 1) (by omega) #[.int .i64 VF,.int .i64 0,.bool false,.bool false,.int .i64 0,.bool false,.slice none 0 0,.slice none 0 0,.slice none 0 0]
      have hsr:(Tryz.prog.info? 39).map (·.size)=some (#[.int .i64 VF,.int .i64 0,.bool false,.bool false,.int .i64 0,.bool false,.slice none 0 0,.slice none 0 0,.slice none 0 0]:Array Value).size:=sz_res
      go_wp2_with (first | (refine st_row (by kernel_rfl) 39 _ _ rfl _ #[.int .i64 VF,.int .i64 0,.bool false,.bool false,.int .i64 0,.bool false,.slice none 0 0,.slice none 0 0,.slice none 0 0] rfl rfl 39 _ R1 hsr rfl (by simp [Value.oneCell']) ?_))
      obtain ⟨q0,q1,q2,q3,q4,q5,q6,q7,q8⟩:=Rr.cel9
      exact bodyPost_ret (v:=.agg #[.int .i64 VF,.int .i64 0,.bool false,.bool false,.int .i64 0,.bool false,.slice none 0 0,.slice none 0 0,.slice none 0 0]) (by simp [results,Tryz.results9,go_sem,q0,q1,q2,q3,q4,q5,q6,q7,q8]) rfl ⟨inst0,by rw [E1.out.1];rfl,E1.out.2.symm,inst0_own _,inst0_nd,fun k hk=>by rw [inst0_ft] at hk;simp at hk,hBr⟩

     case pos=>
      subst hvf
      go_wp2_with fail
      refine (hone wr B1 o1 hX (by first | exact hVF | trivial)).mono ?_
      rintro e w6 ⟨rfl,hq6,hU6⟩
      have hws6:=hU6.size
      replace R1:=R1.outs hU6 (fun hh=>by
       rcases List.mem_cons.1 hh with hh | hh
       ·omega
       ·have:=(HN1.out.2 _ hh).1;omega)
      replace hb:=Out.keep hb hU6 hb.size (fun k hk=>by
       rcases List.mem_cons.1 hk with rfl | hk
       ·omega
       ·have:=(HN1.out.2 _ hk).1;omega)
      clear hone hU6 HV0 B1 o1 hX hVF
      by_cases h1:L1=0
      ·subst h1
       obtain ⟨q2,e2,B2,o2,n2,f2⟩:=hq6 rfl
       have h5:=HHT.out.1
       rw [if_pos rfl] at h5
       have HM' : Hid ((layL pe.rounds pe.dec (L.take (m + 1))).1=0):=by show _=_;rw [h5]
       have HE2:Hid (q2.e=⟨pe.has,pe.batch,(layL pe.rounds pe.dec (L.take (m + 1))).2.1,(layL pe.rounds pe.dec (L.take (m + 1))).2.2⟩):=by show _=_;rw [h5];exact e2
       have HN2:Hid ((instK.foot q2).Nodup∧∀ k∈instK.foot q2,w.heap.size + 2≤k∧k≠w3.heap.size):=⟨n2,fun k hk=>by
        rcases f2 k hk with hk | hk
        ·exact HN1.out.2 k hk
        ·exact ⟨by omega,by omega⟩⟩
       clear HHT h5 hq6 e2 n2 f2 HN1
       go_wp2
       go_roundw
       case rel=>exact ⟨m + 1,q2,by omega,by go_num,HM',HE2,B2,o2,HN2,R1,hb⟩
       case measure=>simp [intOf];omega
      ·have h1' : (L1 != 0)=true:=by simpa using h1
       have h5:=HHT.out.1
       rw [if_neg h1] at h5
       have h6:=HHT.out.2 (by rw [h5];exact h1)
       have E1:Hid (D=L1∧E=ine0):=by
        have:=HDG.out.1 (by rw [h6,h5];exact h1)
        rw [h6,h5] at this
        exact this
       clear HHT h5 h6 hq6 HDG HN1
       go_wp2_with fail
       refine (l6Bad_any L1 _).mono ?_
       rintro e w8 ⟨rfl,hb8⟩
       replace hb:=hb.trans (hb8.mono hb.size)
       replace R1:=R1.below hb8
       clear hb8
       have Rr:=R1.row #[.int .i64 L1,.int .i64 0,.bool false,.bool false,.int .i64 0,.bool false,.slice none 0 0,.slice none 0 0,.slice none 0 0]
       have hBr:=below_row hb (g:=w.heap.size + 1) (by omega) #[.int .i64 L1,.int .i64 0,.bool false,.bool false,.int .i64 0,.bool false,.slice none 0 0,.slice none 0 0,.slice none 0 0]
       have hsr:(Tryz.prog.info? 39).map (·.size)=some (#[.int .i64 L1,.int .i64 0,.bool false,.bool false,.int .i64 0,.bool false,.slice none 0 0,.slice none 0 0,.slice none 0 0]:Array Value).size:=sz_res
       go_wp2_with (first | (refine st_row (by kernel_rfl) 39 _ _ rfl _ #[.int .i64 L1,.int .i64 0,.bool false,.bool false,.int .i64 0,.bool false,.slice none 0 0,.slice none 0 0,.slice none 0 0] rfl rfl 39 _ R1 hsr rfl (by simp [Value.oneCell']) ?_))
       obtain ⟨q0,q1,q2,q3,q4,q5,q6,q7,q8⟩:=Rr.cel9
       exact bodyPost_ret (v:=.agg #[.int .i64 L1,.int .i64 0,.bool false,.bool false,.int .i64 0,.bool false,.slice none 0 0,.slice none 0 0,.slice none 0 0]) (by simp [results,Tryz.results9,go_sem,q0,q1,q2,q3,q4,q5,q6,q7,q8]) rfl ⟨inst0,by rw [E1.out.1];rfl,E1.out.2.symm,inst0_own _,inst0_nd,fun k hk=>by rw [inst0_ft] at hk;simp at hk,hBr⟩

    ·have hml:m=L.length:=by omega
     subst hml
     rw [List.take_length] at HM HE1 hFm
     have hq1n:q1.n≤1048576:=by rw [inst_ne,HE1.out];exact Nat.le_trans (HSM.out _ _ hFm) (by omega)
     have hki:¬ (L.length:Int) < (L.length:Int):=by omega
     have he2:q1.e=layE pe L:=HE1.out
     have hP6:InstP wr w3.heap.size 0 q1:=⟨⟨B1.cell 0 _ rfl,B1.cell 1 _ rfl,B1.cell 2 _ rfl,B1.cell 3 _ rfl⟩,instK.own_rd o1⟩
     have hf6:=l6Fault_any w3.heap.size 0 q1 wr hP6 hq1n
     rw [he2] at hf6
     have HE3:Hid ((insF (layE pe L)≠0→D=insF (layE pe L)∧E=ine0)∧(insF (layE pe L)=0→D=0∧E=q1.e)):=⟨HDG.out.2.1 HM.out,fun hh=>by rw [he2];exact HDG.out.2.2 HM.out hh⟩
     clear HDG HM HE1 HSM hFm he2 hP6
     generalize insF (layE pe L)=IF at *
     go_wp2_with fail
     refine hf6.mono ?_
     rintro e w7 ⟨rfl,hb7⟩
     replace B1:=B1.below hb7
     replace o1:=instK.own_out (F:=[]) o1 (Out.of_below hb7) (fun _ _=>by simp)
     replace R1:=R1.below hb7
     replace hb:=hb.trans (hb7.mono hb.size)
     clear hf6 hb7
     by_cases hI:IF=0
     case neg=>
      have hI' : (IF != 0)=true:=by simpa using hI
      have E1:Hid (D=IF∧E=ine0):=HE3.out.1 hI
      clear HE3 o1
      go_wp2_with fail
      refine (l6Bad_any IF _).mono ?_
      rintro e w8 ⟨rfl,hb8⟩
      replace hb:=hb.trans (hb8.mono hb.size)
      replace R1:=R1.below hb8
      clear hb8
      have Rr:=R1.row #[.int .i64 IF,.int .i64 0,.bool false,.bool false,.int .i64 0,.bool false,.slice none 0 0,.slice none 0 0,.slice none 0 0]
      have hBr:=below_row hb (g:=w.heap.size + 1) (by omega) #[.int .i64 IF,.int .i64 0,.bool false,.bool false,.int .i64 0,.bool false,.slice none 0 0,.slice none 0 0,.slice none 0 0]
      have hsr:(Tryz.prog.info? 39).map (·.size)=some (#[.int .i64 IF,.int .i64 0,.bool false,.bool false,.int .i64 0,.bool false,.slice none 0 0,.slice none 0 0,.slice none 0 0]:Array Value).size:=sz_res
      go_wp2_with (first | (refine st_row (by kernel_rfl) 39 _ _ rfl _ #[.int .i64 IF,.int .i64 0,.bool false,.bool false,.int .i64 0,.bool false,.slice none 0 0,.slice none 0 0,.slice none 0 0] rfl rfl 39 _ R1 hsr rfl (by simp [Value.oneCell']) ?_))
      obtain ⟨q0,q1,q2,q3,q4,q5,q6,q7,q8⟩:=Rr.cel9
      exact bodyPost_ret (v:=.agg #[.int .i64 IF,.int .i64 0,.bool false,.bool false,.int .i64 0,.bool false,.slice none 0 0,.slice none 0 0,.slice none 0 0]) (by simp [results,Tryz.results9,go_sem,q0,q1,q2,q3,q4,q5,q6,q7,q8]) rfl ⟨inst0,by rw [E1.out.1];rfl,E1.out.2.symm,inst0_own _,inst0_nd,fun k hk=>by rw [inst0_ft] at hk;simp at hk,hBr⟩

     case pos=>
      obtain ⟨eD,eE⟩:=HE3.out.2 hI
      subst hI
      have HD0:Hid (D=0):=eD
      have HQ:Hid (q1.e=E∧(instK.foot q1).Nodup∧(∀ k∈instK.foot q1,w.heap.size≤k)∧∀ cs,instK.own (w7.setRow (w.heap.size + 1) cs) q1):=⟨eE.symm,HN1.out.1,fun k hk=>by have:=(HN1.out.2 k hk).1;omega,fun cs=>instK.own_out o1 (out_row w7 (w.heap.size + 1) cs) (fun k hk=>by have:=(HN1.out.2 k hk).1;simp only [List.mem_singleton];omega)⟩
      clear HE3 HN1 eD eE
      obtain ⟨qh,qb,qbs,qr,qrs,qd,qds⟩:=q1
      obtain ⟨s1,t1,rfl⟩:∃ a c,qb=.slice a qbs.length c:=o1.1.shape
      obtain ⟨s2,t2,rfl⟩:∃ a c,qr=.slice a qrs.length c:=o1.2.1.shape
      obtain ⟨s3,t3,rfl⟩:∃ a c,qd=.slice a qds.length c:=o1.2.2.shape
      obtain ⟨p0,p1,p2,p3⟩:=B1.cel4
      have Rr:=R1.row #[.int .i64 0,.int .i64 0,.bool false,.bool false,.int .i64 0,.bool qh,.slice s1 qbs.length t1,.slice s2 qrs.length t2,.slice s3 qds.length t3]
      have hBr:=below_row hb (g:=w.heap.size + 1) (by omega) #[.int .i64 0,.int .i64 0,.bool false,.bool false,.int .i64 0,.bool qh,.slice s1 qbs.length t1,.slice s2 qrs.length t2,.slice s3 qds.length t3]
      have hsr:(Tryz.prog.info? 39).map (·.size)=some (#[.int .i64 0,.int .i64 0,.bool false,.bool false,.int .i64 0,.bool qh,.slice s1 qbs.length t1,.slice s2 qrs.length t2,.slice s3 qds.length t3]:Array Value).size:=sz_res
      clear o1
      go_wp2_with (first | (refine st_row (by kernel_rfl) 39 _ _ rfl _ #[.int .i64 0,.int .i64 0,.bool false,.bool false,.int .i64 0,.bool qh,.slice s1 qbs.length t1,.slice s2 qrs.length t2,.slice s3 qds.length t3] rfl rfl 39 _ R1 hsr rfl (by simp [Value.oneCell']) ?_))
      obtain ⟨q0,q1,q2,q3,q4,q5,q6,q7,q8⟩:=Rr.cel9
      exact bodyPost_ret (v:=.agg #[.int .i64 0,.int .i64 0,.bool false,.bool false,.int .i64 0,.bool qh,.slice s1 qbs.length t1,.slice s2 qrs.length t2,.slice s3 qds.length t3]) (by simp [results,Tryz.results9,go_sem,q0,q1,q2,q3,q4,q5,q6,q7,q8]) rfl ⟨(⟨qh,.slice s1 qbs.length t1,qbs,.slice s2 qrs.length t2,qrs,.slice s3 qds.length t3,qds⟩:InstQ),by rw [HD0.out],HQ.out.1,HQ.out.2.2.2 _,HQ.out.2.1,HQ.out.2.2.1,hBr⟩

end Go.Proofs.YtdhdnppbgaikfaaGreatDoor
namespace Go.Proofs.YtdhdnppbgaikfaaGreatDoor
open Go.RowKit
set_option maxRecDepth 100000
/-- One cell of a board. -/
def cel (rs:List RoundE) (dec:List Int) (k:Int) (r n:Nat):Int:=if k=1 then repA rs r n else if k=2 then proA rs r n else dec.getD n 0

theorem cur_cel (rs:List RoundE) (dec:List Int) (v:VoteD):curV rs dec v=cel rs dec v.kind v.round.toNat v.node.toNat:=rfl

theorem cel3 (rs:List RoundE) (dec:List Int) (r r' n:Nat):cel rs dec 3 r n=cel rs dec 3 r' n:=rfl

theorem rea_get_in (rs:List RoundE) (k r:Nat) (hr:r < rs.length):(reaR rs k).getD r rnd0=rs.getD r rnd0:=by
 unfold reaR
 simp only [List.getD]
 rw [List.getElem?_append_left hr]

theorem rea_get_out (rs:List RoundE) (k r:Nat) (hr:¬ r < rs.length) (hl:r < (reaR rs k).length):(reaR rs k).getD r rnd0=opn3:=by
 unfold reaR at hl ⊢
 simp only [List.getD]
 rw [List.length_append,List.length_replicate] at hl
 rw [List.getElem?_append_right (by omega),List.getElem?_replicate,if_pos (by omega)]
 rfl

theorem opn3_cell {n:Nat} (hn:n < 3):opn3.rep.getD n 0=3∧opn3.pro.getD n 0=3:=by
 have:n=0∨n=1∨n=2:=by omega
 rcases this with rfl | rfl | rfl <;> exact ⟨rfl,rfl⟩

theorem cel_in (rs:List RoundE) (dec:List Int) (k0:Nat) (k:Int) (r n:Nat) (hr:r < rs.length∨k=3):cel (reaR rs k0) dec k r n=cel rs dec k r n:=by
 unfold cel repA proA
 rcases hr with hr | rfl
 ·rw [rea_get_in rs k0 r hr]
 ·rfl

theorem cel_out (rs:List RoundE) (dec:List Int) (k0:Nat) (k:Int) (r n:Nat) (hk:k=1∨k=2) (hr:¬ r < rs.length) (hl:r < (reaR rs k0).length) (hn:n < 3):cel (reaR rs k0) dec k r n=3:=by
 unfold cel repA proA
 rw [rea_get_out rs k0 r hr hl,(opn3_cell hn).1,(opn3_cell hn).2]
 rcases hk with rfl | rfl <;> rfl

theorem rst_rep {rs:List RoundE} (h:Wel rs) (k m:Nat) (v:Int) (hk:k < rs.length) (hm:m < 3) (r n:Nat):repA (rstR rs k m v) r n=if n=m∧r=k then v else repA rs r n:=by
 unfold repA rstR
 rw [getD_set _ _ hk]
 by_cases hr:r=k
 ·subst hr
  rw [if_pos rfl]
  show ((rs.getD r rnd0).rep.set m v).getD n 0=_
  rw [getZ_set _ _ (by rw [(wel_at h r hk).1];exact hm)]
  by_cases hn:n=m
  ·simp [hn]
  ·simp [hn]
 ·rw [if_neg hr,if_neg (fun e=>hr e.2)]

theorem rst_rep' {rs:List RoundE} (k m:Nat) (v:Int) (hk:k < rs.length) (r n:Nat):proA (rstR rs k m v) r n=proA rs r n:=by
 unfold proA rstR
 rw [getD_set _ _ hk]
 by_cases hr:r=k
 ·subst hr;rw [if_pos rfl]
 ·rw [if_neg hr]

theorem rst_pro {rs:List RoundE} (h:Wel rs) (k m:Nat) (v:Int) (hk:k < rs.length) (hm:m < 3) (r n:Nat):proA (rstP rs k m v) r n=if n=m∧r=k then v else proA rs r n:=by
 unfold proA rstP
 rw [getD_set _ _ hk]
 by_cases hr:r=k
 ·subst hr
  rw [if_pos rfl]
  show ((rs.getD r rnd0).pro.set m v).getD n 0=_
  rw [getZ_set _ _ (by rw [(wel_at h r hk).2];exact hm)]
  by_cases hn:n=m
  ·simp [hn]
  ·simp [hn]
 ·rw [if_neg hr,if_neg (fun e=>hr e.2)]

theorem rst_pro' {rs:List RoundE} (k m:Nat) (v:Int) (hk:k < rs.length) (r n:Nat):repA (rstP rs k m v) r n=repA rs r n:=by
 unfold repA rstP
 rw [getD_set _ _ hk]
 by_cases hr:r=k
 ·subst hr;rw [if_pos rfl]
 ·rw [if_neg hr]

/-- A vote turns its own cell alone. -/
theorem cel_put {rs:List RoundE} {dec:List Int} (h:Wel rs) (hd:dec.length=3) {v:VoteD} (hv:voteF v=0) (hr:v.round.toNat < rs.length) (k:Int) (hk:1≤k∧k≤3) (r n:Nat) :
  cel (putR rs v) (putD dec v) k r n=if k=v.kind∧n=v.node.toNat∧(k=3∨r=v.round.toNat) then v.value else cel rs dec k r n:=by
 obtain ⟨h1,h2,h3,h4,h5,_⟩:=voteF_zero hv
 have hm:v.node.toNat < 3:=by omega
 have hk3:v.kind=1∨v.kind=2∨v.kind=3:=by omega
 have hk' : k=1∨k=2∨k=3:=by omega
 unfold cel putR putD
 rcases hk3 with e | e | e <;> rcases hk' with rfl | rfl | rfl <;> rw [e] <;> simp only [if_true,if_false,show ((1:Int)=2)=False by simp,show ((2:Int)=1)=False by simp,show ((3:Int)=1)=False by simp,show ((3:Int)=2)=False by simp,show ((1:Int)=3)=False by simp,show ((2:Int)=3)=False by simp,true_and,false_and,false_or,true_or,and_true]
 ·exact rst_rep h _ _ _ hr hm r n
 ·exact rst_rep' _ _ _ hr r n
 ·exact rst_pro' _ _ _ hr r n
 ·exact rst_pro h _ _ _ hr hm r n
 ·rw [getZ_set _ _ (by omega)]

/-- A board lies within another one; a vote is of a board; a board has a vote. -/
structure Sub (rs:List RoundE) (dec:List Int) (ts:List RoundE) (te:List Int):Prop where
 f:Frm rs dec
 t:Frm ts te
 l:rs.length≤ts.length
 c:∀ k r n,1≤k∧k≤3→(r < rs.length∨k=3)→n < 3→cel rs dec k r n=3∨cel rs dec k r n=cel ts te k r n

def Of (v:VoteD) (ts:List RoundE) (te:List Int):Prop:=voteF v=0∧v.round.toNat < ts.length∧curV ts te v=v.value

def Hv (v:VoteD) (rs:List RoundE) (dec:List Int):Prop:=v.round.toNat < rs.length∧curV rs dec v=v.value

theorem rea_len (rs:List RoundE) (k:Nat):(reaR rs k).length=max rs.length (k + 1):=by
 unfold reaR
 rw [List.length_append,List.length_replicate]
 omega

theorem sub_lay {rs ts:List RoundE} {dec te:List Int} (S:Sub rs dec ts te) {v:VoteD} (o:Of v ts te) :
  lay1 rs dec v=0∧Sub (putR (reaR rs v.round.toNat) v) (putD dec v) ts te∧Hv v (putR (reaR rs v.round.toNat) v) (putD dec v) ∧
  (∀ u,Of u ts te→Hv u rs dec→Hv u (putR (reaR rs v.round.toNat) v) (putD dec v))∧rs.length≤(putR (reaR rs v.round.toNat) v).length:=by
 obtain ⟨hv,ho,hc⟩:=o
 obtain ⟨h1,h2,h3,h4,h5,_⟩:=voteF_zero hv
 have hm:v.node.toNat < 3:=by omega
 have hlr:=reaR_lt rs v.round.toNat
 have hlen:=rea_len rs v.round.toNat
 have hwr:=reaR_wel S.f.w v.round.toNat
 rw [cur_cel] at hc
 have key:∀ k r n,1≤k∧k≤3→(r < (reaR rs v.round.toNat).length∨k=3)→n < 3→cel (reaR rs v.round.toNat) dec k r n=3∨cel (reaR rs v.round.toNat) dec k r n=cel ts te k r n:=by
  intro k r n hk hr hn
  by_cases hin:r < rs.length∨k=3
  ·rw [cel_in rs dec _ k r n hin]
   exact S.c k r n hk hin hn
  ·left
   have hr' : ¬ r < rs.length:=fun e=>hin (Or.inl e)
   have hk3:k≠3:=fun e=>hin (Or.inr e)
   exact cel_out rs dec _ k r n (by omega) hr' (by rcases hr with hr | hr;exact hr;exact absurd hr hk3) hn
 have hcur:curV (reaR rs v.round.toNat) dec v=3∨curV (reaR rs v.round.toNat) dec v=v.value:=by
  rw [cur_cel]
  rcases key v.kind v.round.toNat v.node.toNat h1 (Or.inl hlr) hm with e | e
  ·exact Or.inl e
  ·exact Or.inr (e.trans hc)
 have put:=fun k hk r n=>cel_put hwr S.f.d hv hlr k hk r n
 have same:∀ k r n,k=v.kind∧n=v.node.toNat∧(k=3∨r=v.round.toNat)→cel ts te k r n=v.value:=by
  rintro k r n ⟨rfl,rfl,e | rfl⟩
  ·rw [← hc,e];rfl
  ·exact hc
 refine ⟨by unfold lay1;rw [if_pos hv,if_pos hcur],⟨S.f.lay hv,S.t,by rw [putR_len,hlen];have:=S.l;omega,fun k r n hk hr hn=>?_⟩,⟨by rw [putR_len];exact hlr,?_⟩,fun u hu hh=>⟨by rw [putR_len,hlen];have:=hh.1;omega,?_⟩,by rw [putR_len,hlen];omega⟩
 ·rw [put k hk r n]
  split
  ·rename_i e
   exact Or.inr (same k r n e).symm
  ·rw [putR_len] at hr
   exact key k r n hk hr hn
 ·rw [cur_cel,put v.kind h1,if_pos ⟨rfl,rfl,Or.inr rfl⟩]
 ·obtain ⟨hu0,_,hu2⟩:=hu
  obtain ⟨u1,_,_,u4,_,_⟩:=voteF_zero hu0
  have hh2:=hh.2
  rw [cur_cel] at hu2 hh2 ⊢
  rw [put u.kind u1]
  split
  ·rename_i e
   rw [← same _ _ _ e]
   exact hu2
  ·rw [cel_in rs dec _ _ _ _ (Or.inl hh.1)]
   exact hh2

theorem lay_sub {ts:List RoundE} {te:List Int}:∀ (L:List VoteD) {rs:List RoundE} {dec:List Int},Sub rs dec ts te→(∀ v∈L,Of v ts te) →
  (layL rs dec L).1=0∧Sub (layL rs dec L).2.1 (layL rs dec L).2.2 ts te∧(∀ v∈L,Hv v (layL rs dec L).2.1 (layL rs dec L).2.2)∧(∀ u,Of u ts te→Hv u rs dec→Hv u (layL rs dec L).2.1 (layL rs dec L).2.2)∧rs.length≤(layL rs dec L).2.1.length
 | [],rs,dec,S,_=>⟨rfl,S,fun v hv=>by simp at hv,fun _ _ h=>h,Nat.le_refl _⟩
 | v :: t,rs,dec,S,hL=>by
  obtain ⟨e,S1,h1,h2,h3⟩:=sub_lay S (hL v (by simp))
  obtain ⟨e',S2,h1',h2',h3'⟩:=lay_sub t S1 (fun u hu=>hL u (List.mem_cons_of_mem _ hu))
  simp only [layL]
  rw [if_pos e]
  refine ⟨e',S2,fun u hu=>?_,fun u hu hh=>h2' u hu (h2 u hu hh),Nat.le_trans h3 h3'⟩
  rcases List.mem_cons.1 hu with rfl | hu
  ·exact h2' u (hL u (by simp)) h1
  ·exact h1' u hu

theorem rvF_in {kind round:Int}:∀ (vs:List Int) (i n:Nat),n < vs.length→vs.getD n 0≠3→(⟨kind,round,((i + n:Nat):Int),vs.getD n 0⟩:VoteD)∈rvF kind round i vs
 | [],_,n,hn,_=>by simp at hn
 | v :: r,i,0,_,h3=>by
  have h3' : v≠3:=h3
  simp only [rvF,if_neg h3']
  exact List.mem_append_left _ (by simp)
 | v :: r,i,n + 1,hn,h3=>by
  simp only [rvF]
  refine List.mem_append_right _ ?_
  have:=rvF_in (kind:=kind) (round:=round) r (i + 1) n (by simpa using hn) (by simpa [List.getD] using h3)
  rw [show i + 1 + n=i + (n + 1) by omega] at this
  simpa [List.getD] using this

theorem rvF_of {kind round:Int}:∀ (vs:List Int) (i:Nat) (u:VoteD),u∈rvF kind round i vs→∃ n,n < vs.length∧u=⟨kind,round,((i + n:Nat):Int),vs.getD n 0⟩∧vs.getD n 0≠3
 | [],_,u,h=>by simp [rvF] at h
 | v :: r,i,u,h=>by
  simp only [rvF] at h
  rcases List.mem_append.1 h with h | h
  ·split at h
   ·simp at h
   ·rename_i h3
    simp only [List.mem_singleton] at h
    exact ⟨0,by simp,h,h3⟩
  ·obtain ⟨n,hn,e,h3⟩:=rvF_of r (i + 1) u h
   refine ⟨n + 1,by simpa using hn,?_,by simpa [List.getD] using h3⟩
   rw [e,show i + 1 + n=i + (n + 1) by omega]
   simp [List.getD]

theorem vtR_in:∀ (rs:List RoundE) (k r:Nat),r < rs.length→∀ u,(u∈rvF 1 ((k + r:Nat):Int) 0 (rs.getD r rnd0).rep∨u∈rvF 2 ((k + r:Nat):Int) 0 (rs.getD r rnd0).pro)→u∈vtR k rs
 | [],_,r,hr,_,_=>by simp at hr
 | q :: t,k,0,_,u,h=>by
  simp only [vtR]
  rcases h with h | h
  ·exact List.mem_append_left _ h
  ·exact List.mem_append_right _ (List.mem_append_left _ h)
 | q :: t,k,r + 1,hr,u,h=>by
  simp only [vtR]
  refine List.mem_append_right _ (List.mem_append_right _ (vtR_in t (k + 1) r (by simpa using hr) u ?_))
  rw [show k + 1 + r=k + (r + 1) by omega]
  simpa [List.getD] using h

theorem vtR_of:∀ (rs:List RoundE) (k:Nat) (u:VoteD),u∈vtR k rs→∃ r,r < rs.length∧(u∈rvF 1 ((k + r:Nat):Int) 0 (rs.getD r rnd0).rep∨u∈rvF 2 ((k + r:Nat):Int) 0 (rs.getD r rnd0).pro)
 | [],_,u,h=>by simp [vtR] at h
 | q :: t,k,u,h=>by
  simp only [vtR] at h
  rcases List.mem_append.1 h with h | h
  ·exact ⟨0,by simp,Or.inl h⟩
  ·rcases List.mem_append.1 h with h | h
   ·exact ⟨0,by simp,Or.inr h⟩
   ·obtain ⟨r,hr,h⟩:=vtR_of t (k + 1) u h
    refine ⟨r + 1,by simpa using hr,?_⟩
    rw [show k + (r + 1)=k + 1 + r by omega]
    simpa [List.getD] using h

/-- Each cell that is not open is a vote; each vote is a cell. -/
theorem cell_vote {x:InstE} (R:Rgt x) (k:Int) (r n:Nat) (hk:1≤k∧k≤3) (hr:r < x.rounds.length) (hr0:k=3→r=0) (hn:n < 3) (h3:cel x.rounds x.dec k r n≠3):(⟨k,(r:Int),(n:Int),cel x.rounds x.dec k r n⟩:VoteD)∈vtI x:=by
 have hv:=R.votes r hr
 have hk' : k=1∨k=2∨k=3:=by omega
 unfold vtI
 rcases hk' with rfl | rfl | rfl
 ·have:=rvF_in (kind:=1) (round:=(r:Int)) (x.rounds.getD r rnd0).rep 0 n (by rw [vf_len hv.1];exact hn) h3
  rw [Nat.zero_add] at this
  exact List.mem_append_left _ (vtR_in _ 0 r hr _ (Or.inl (by rw [Nat.zero_add];exact this)))
 ·have:=rvF_in (kind:=2) (round:=(r:Int)) (x.rounds.getD r rnd0).pro 0 n (by rw [vf_len hv.2];exact hn) h3
  rw [Nat.zero_add] at this
  exact List.mem_append_left _ (vtR_in _ 0 r hr _ (Or.inr (by rw [Nat.zero_add];exact this)))
 ·obtain rfl:=hr0 rfl
  have:=rvF_in (kind:=3) (round:=0) x.dec 0 n (by rw [vf_len R.dec];exact hn) h3
  rw [Nat.zero_add] at this
  exact List.mem_append_right _ this

theorem vok_le {most v:Int} (h:vOk most v=true) (h3:v≠3) (hm:most=1∨most=2):0≤v∧v≤most:=by
 have h4:=vOk_mem hm h
 rcases hm with rfl | rfl
 ·have hx:∀ x∈v4,vOk 1 x=true→x≠3→0≤x∧x≤1:=by decide +kernel
  exact hx v h4 h h3
 ·have hx:∀ x∈v4,vOk 2 x=true→x≠3→0≤x∧x≤2:=by decide +kernel
  exact hx v h4 h h3

theorem voteF_ok {k r n v:Int} (h1:1≤k∧k≤3) (h2:k=3→r=0) (h3:0≤r∧r≤3) (h4:0≤n∧n≤2) (h5:0≤v∧v≤(if k=2 then 2 else 1)):voteF ⟨k,r,n,v⟩=0:=by
 have hm:vtM k=if k=2 then 2 else 1:=by
  unfold vtM
  by_cases hk:k=2 <;> simp [hk]
 unfold voteF
 rw [if_neg,if_neg]
 ·simp only [hm]
  have a1:inW r 0 3=true:=by simp [inW,h3.1,h3.2]
  have a2:inW n 0 2=true:=by simp [inW,h4.1,h4.2]
  have a3:inW v 0 (if k=2 then 2 else 1)=true:=by simp only [inW,Bool.and_eq_true,decide_eq_true_eq];exact h5
  rw [a1,a2,a3]
  simp
 ·rintro (e | ⟨e1,e2⟩)
  ·simp [inW,h1.1,h1.2] at e
  ·have:k=3:=by simpa using e1
   rw [h2 this] at e2
   simp at e2

theorem vote_of {x:InstE} (R:Rgt x) {u:VoteD} (h:u∈vtI x):Of u x.rounds x.dec:=by
 unfold vtI at h
 have h4:=R.len
 rcases List.mem_append.1 h with h | h
 ·obtain ⟨r,hr,h⟩:=vtR_of _ 0 u h
  rw [Nat.zero_add] at h
  have hv:=R.votes r hr
  rcases h with h | h
  ·obtain ⟨n,hn,rfl,h3⟩:=rvF_of _ 0 u h
   rw [vf_len hv.1] at hn
   rw [Nat.zero_add]
   have:=vok_le (vf_vote hv.1 n hn) h3 (Or.inl rfl)
   exact ⟨voteF_ok (by omega) (by omega) (by omega) (by omega) (by simpa using this),by simpa using hr,by rw [cur_cel];simp [cel,repA]⟩
  ·obtain ⟨n,hn,rfl,h3⟩:=rvF_of _ 0 u h
   rw [vf_len hv.2] at hn
   rw [Nat.zero_add]
   have:=vok_le (vf_vote hv.2 n hn) h3 (Or.inr rfl)
   exact ⟨voteF_ok (by omega) (by omega) (by omega) (by omega) (by simpa using this),by simpa using hr,by rw [cur_cel];simp [cel,proA]⟩
 ·obtain ⟨n,hn,rfl,h3⟩:=rvF_of _ 0 u h
  rw [vf_len R.dec] at hn
  rw [Nat.zero_add]
  have:=vok_le (vf_vote R.dec n hn) h3 (Or.inl rfl)
  exact ⟨voteF_ok (by omega) (by omega) (by omega) (by omega) (by simpa using this),by show (0:Int).toNat < _;simp;omega,by rw [cur_cel];simp [cel]⟩

theorem list3_ext {a b:List Int} (ha:a.length=3) (hb:b.length=3) (h:∀ n,n < 3→a.getD n 0=b.getD n 0):a=b:=by
 apply List.ext_getElem (by omega)
 intro n h1 h2
 have:=h n (by omega)
 simpa [List.getD,h1,h2] using this

/-- What has all the votes of a board, and nothing else, is the board. -/
theorem sub_eq {x:InstE} (R:Rgt x) {rs:List RoundE} {dec:List Int} (S:Sub rs dec x.rounds x.dec) (hv:∀ u∈vtI x,Hv u rs dec) (hl:x.rounds.length≤rs.length):rs=x.rounds∧dec=x.dec:=by
 have hl' : rs.length=x.rounds.length:=Nat.le_antisymm S.l hl
 have key:∀ k r n,1≤k∧k≤3→r < x.rounds.length→(k=3→r=0)→n < 3→cel rs dec k r n=cel x.rounds x.dec k r n:=by
  intro k r n hk hr h0 hn
  by_cases h3:cel x.rounds x.dec k r n=3
  ·rcases S.c k r n hk (Or.inl (by omega)) hn with e | e
   ·rw [e,h3]
   ·exact e
  ·have:=(hv _ (cell_vote R k r n hk hr h0 hn h3)).2
   rw [cur_cel] at this
   simpa using this
 refine ⟨?_,list3_ext S.f.d (vf_len R.dec) (fun n hn=>key 3 0 n (by omega) (by have:=R.len;omega) (fun _=>rfl) hn)⟩
 apply List.ext_getElem hl'
 intro r h1 h2
 have w1:=S.f.w _ (List.getElem_mem h1)
 have w2:=S.t.w _ (List.getElem_mem h2)
 have e1:rs.getD r rnd0=rs[r]:=by simp [List.getD,h1]
 have e2:x.rounds.getD r rnd0=x.rounds[r]:=by simp [List.getD,h2]
 have ea:=list3_ext w1.1 w2.1 (fun n hn=>by
  have:(rs.getD r rnd0).rep.getD n 0=(x.rounds.getD r rnd0).rep.getD n 0:=key 1 r n (by omega) h2 (by omega) hn
  rw [e1,e2] at this
  exact this)
 have eb:=list3_ext w1.2 w2.2 (fun n hn=>by
  have:(rs.getD r rnd0).pro.getD n 0=(x.rounds.getD r rnd0).pro.getD n 0:=key 2 r n (by omega) h2 (by omega) hn
  rw [e1,e2] at this
  exact this)
 generalize rs[r]=p at ea eb
 generalize x.rounds[r]=q at ea eb
 obtain ⟨p1,p2⟩:=p
 obtain ⟨q1,q2⟩:=q
 simp only at ea eb
 rw [ea,eb]

/-- The rounds behind the last one in which somebody voted. -/
theorem trim_ex (rs:List RoundE):∀ m,1≤m→m≤rs.length→(∀ k,m≤k→k < rs.length→rs.getD k rnd0=opn3)→∃ m',1≤m' ∧ m' ≤ rs.length∧(∀ k,m' ≤ k→k < rs.length→rs.getD k rnd0=opn3)∧(m' = 1∨rs.getD (m' - 1) rnd0≠opn3)
 | 0,h,_,_=>absurd h (by omega)
 | m + 1,_,hm,hk=>by
  rcases Nat.eq_zero_or_pos m with rfl | h0
  ·exact ⟨1,by omega,hm,hk,Or.inl rfl⟩
  ·rcases Classical.em (rs.getD m rnd0=opn3) with h | h
   ·exact trim_ex rs m h0 (by omega) (fun k h1 h2=>by
     rcases Nat.eq_or_lt_of_le h1 with rfl | h1
     ·exact h
     ·exact hk k h1 h2)
   ·exact ⟨m + 1,by omega,hm,hk,Or.inr h⟩

theorem take_get {rs:List RoundE} {m r:Nat} (hr:r < m):(rs.take m).getD r rnd0=rs.getD r rnd0:=by
 simp only [List.getD]
 rw [List.getElem?_take_of_lt hr]

theorem rgt_trim {x:InstE} (R:Rgt x) (m:Nat) (h1:1≤m) (hm:m≤x.rounds.length) (ho:∀ k,m≤k→k < x.rounds.length→x.rounds.getD k rnd0=opn3):Rgt ⟨x.has,x.batch,x.rounds.take m,x.dec⟩:=by
 have hlen:(x.rounds.take m).length=m:=by rw [List.length_take];omega
 have hR:∀ j n,j < m→repA (x.rounds.take m) j n=repA x.rounds j n:=fun j n hj=>by unfold repA;rw [take_get hj]
 have hP:∀ j n,j < m→proA (x.rounds.take m) j n=proA x.rounds j n:=fun j n hj=>by unfold proA;rw [take_get hj]
 refine ⟨R.bat0,R.bat1,by show 1≤(x.rounds.take m).length∧(x.rounds.take m).length≤4;have:=R.len;omega,fun j hj=>?_,R.dec,fun j hj n hn=>?_,fun j hj n hn=>?_,fun n hn=>?_⟩
 ·have hj' : j < m:=by have:j < (x.rounds.take m).length:=hj;omega
  show vf ((x.rounds.take m).getD j rnd0).rep 1=0∧vf ((x.rounds.take m).getD j rnd0).pro 2=0
  rw [take_get hj']
  exact R.votes j (by omega)
 ·have hj' : j < m:=by have:j < (x.rounds.take m).length:=hj;omega
  obtain ⟨a1,a2⟩:=rep_may (R.rep j (by omega) n hn)
  show repI x.has (x.rounds.take m) j n=true
  refine rep_mk (by rw [hR j n hj'];exact a1) ?_
  rw [hR j n hj',hP (j - 1) n (by omega),take_get (show j - 1 < m by omega)]
  exact a2
 ·have hj' : j < m:=by have:j < (x.rounds.take m).length:=hj;omega
  show proR (x.rounds.take m) j n=true
  rcases pro_may (R.pro j (by omega) n hn) with a1 | a1
  ·exact pro_yes (Or.inl (by rw [hP j n hj'];exact a1))
  ·refine pro_yes (Or.inr ?_)
   rw [hP j n hj',hR j n hj',take_get hj']
   exact a1
 ·have hE:=R.en n hn
  have hd:=dec01 R n hn
  show endR (x.rounds.take m) (x.dec.getD n 0)=true
  unfold endR at hE ⊢
  rw [Bool.or_eq_true] at hE ⊢
  by_cases e3:x.dec.getD n 0=3
  ·left;rw [e3];rfl
  ·rcases hE with hE | hE
   ·exact Or.inl hE
   ·right
    obtain ⟨j,hj,hc⟩:=agr_iff.1 hE
    by_cases hjm:j < m
    ·exact agr_iff.2 ⟨j,by omega,by rw [take_get hjm];exact hc⟩
    ·rw [ho j (by omega) hj] at hc
     have h3:¬ 2≤cnt 7 opn3.pro (x.dec.getD n 0):=by
      rcases hd with e | e | e <;> rw [e]
      ·decide +kernel
      ·decide +kernel
      ·exact absurd e e3
     exact absurd hc h3

theorem vtR_open:∀ (rs:List RoundE) (k:Nat),(∀ q∈rs,q=opn3)→vtR k rs=[]
 | [],_,_=>rfl
 | q :: t,k,h=>by
  simp only [vtR,h q (by simp),vtR_open t (k + 1) (fun p hp=>h p (List.mem_cons_of_mem _ hp))]
  rfl

theorem opn_of {q:RoundE} (h:q.rep.length=3∧q.pro.length=3) (ha:∀ n,n < 3→q.rep.getD n 0=3∧q.pro.getD n 0=3):q=opn3:=by
 obtain ⟨p1,p2⟩:=q
 have e1:p1=opn3.rep:=list3_ext h.1 rfl (fun n hn=>(ha n hn).1.trans (opn3_cell hn).1.symm)
 have e2:p2=opn3.pro:=list3_ext h.2 rfl (fun n hn=>(ha n hn).2.trans (opn3_cell hn).2.symm)
 rw [e1,e2]

theorem bare_cel {rs:List RoundE} {k:Int} {r n:Nat} (hk:1≤k∧k≤3) (hr:r < [opn3].length∨k=3) (hn:n < 3):cel [opn3] [3,3,3] k r n=3:=by
 have hk' : k=1∨k=2∨k=3:=by omega
 have d3:([3,3,3]:List Int).getD n 0=3:=(opn3_cell hn).1
 rcases hk' with rfl | rfl | rfl
 ·have:r=0:=by rcases hr with hr | hr;(simp at hr;exact hr);(exact absurd hr (by decide))
  subst this
  exact (opn3_cell hn).1
 ·have:r=0:=by rcases hr with hr | hr;(simp at hr;exact hr);(exact absurd hr (by decide))
  subst this
  exact (opn3_cell hn).2
 ·exact d3

theorem bare_rgt {x:InstE} (R:Rgt x):Rgt ⟨x.has,x.batch,[opn3],[3,3,3]⟩:=by
 have c:=fun k hk r hr n hn=>bare_cel (rs:=[]) (k:=k) (r:=r) (n:=n) hk hr hn
 refine ⟨R.bat0,R.bat1,(show 1≤[opn3].length∧[opn3].length≤4 by decide),fun j hj=>?_,(show vf [3,3,3] 1=0 by decide),fun j hj n hn=>?_,fun j hj n hn=>?_,fun n hn=>?_⟩
 ·have:j=0:=by simpa using hj
  subst this
  exact (show vf opn3.rep 1=0∧vf opn3.pro 2=0 by decide)
 ·have e:repA [opn3] j n=3:=c 1 (by omega) j (Or.inl hj) n hn
  refine rep_mk (fun h=>?_) (Or.inl e)
  have h1:repA [opn3] j n=1:=h.1
  omega
 ·exact pro_yes (Or.inl (c 2 (by omega) j (Or.inl hj) n hn))
 ·have e:([3,3,3]:List Int).getD n 0=3:=c 3 (by omega) 0 (Or.inr rfl) n hn
  show endR [opn3] (([3,3,3]:List Int).getD n 0)=true
  rw [e]
  rfl

/-- Laid anew on a bare board, whatever order they come in, the votes give the board without the rounds behind in which nobody voted; laid once more they turn nothing. -/
theorem all_laid {x:InstE} (h:insF x=0):∃ T:InstE,insF T=0∧vtI T=vtI x∧∀ L:List VoteD,(∀ v,v∈L↔v∈vtI x)→L.length≤40 →
  lvC ⟨x.has,x.batch,[opn3],[3,3,3]⟩ L=0∧lvI ⟨x.has,x.batch,[opn3],[3,3,3]⟩ L=T∧lvC T L=0∧lvI T L=T:=by
 have R:=rgt_of h
 obtain ⟨m,h1,hm,ho,hlast⟩:=trim_ex x.rounds x.rounds.length R.len.1 (Nat.le_refl _) (fun k a b=>absurd b (by omega))
 have RT:=rgt_trim R m h1 hm ho
 have RB:=bare_rgt R
 have hlen:(x.rounds.take m).length=m:=by rw [List.length_take];omega
 have hvt:vtI ⟨x.has,x.batch,x.rounds.take m,x.dec⟩=vtI x:=by
  show vtR 0 (x.rounds.take m) ++ rvF 3 0 0 x.dec=vtR 0 x.rounds ++ rvF 3 0 0 x.dec
  have e:=vtR_app (x.rounds.take m) (x.rounds.drop m) 0
  rw [List.take_append_drop,vtR_open (x.rounds.drop m) _ (fun q hq=>?_),List.append_nil] at e
  ·rw [e]
  ·obtain ⟨j,hj,rfl⟩:=List.mem_iff_getElem.1 hq
   rw [List.length_drop] at hj
   have:=ho (m + j) (by omega) (by omega)
   rw [List.getElem_drop]
   simpa [List.getD,show m + j < x.rounds.length by omega] using this
 have fT:=frm_of (ins_of RT)
 have fB:=frm_of (ins_of RB)
 refine ⟨_,ins_of RT,hvt,fun L hL h40=>?_⟩
 have hof:∀ v∈L,Of v (x.rounds.take m) x.dec:=fun v hv=>vote_of RT (by rw [hvt];exact (hL v).1 hv)
 have SB:Sub [opn3] [3,3,3] (x.rounds.take m) x.dec:=⟨fB,fT,by show 1≤_;omega,fun k r n hk hr hn=>Or.inl (bare_cel (rs:=[]) hk hr hn)⟩
 have ST:Sub (x.rounds.take m) x.dec (x.rounds.take m) x.dec:=⟨fT,fT,Nat.le_refl _,fun _ _ _ _ _ _=>Or.inr rfl⟩
 obtain ⟨b1,b2,b3,_,b5⟩:=lay_sub L SB hof
 obtain ⟨t1,t2,t3,_,t5⟩:=lay_sub L ST hof
 have hvB:∀ u∈vtI (⟨x.has,x.batch,x.rounds.take m,x.dec⟩:InstE),Hv u (layL [opn3] [3,3,3] L).2.1 (layL [opn3] [3,3,3] L).2.2:=fun u hu=>b3 u ((hL u).2 (by rw [← hvt];exact hu))
 have hlB:m≤(layL [opn3] [3,3,3] L).2.1.length:=by
  rcases hlast with e | e
  ·have:1≤(layL [opn3] [3,3,3] L).2.1.length:=b2.f.l
   omega
  ·rcases Classical.em (∃ k n,(k=1∨k=2)∧n < 3∧cel (x.rounds.take m) x.dec k (m - 1) n≠3) with ⟨k,n,hk,hn,h3⟩ | hno
   ·have:=(hvB _ (cell_vote RT k (m - 1) n (by omega) (by show m - 1 < (x.rounds.take m).length;omega) (by omega) hn h3)).1
    have e2:((m - 1:Nat):Int).toNat=m - 1:=by omega
    rw [e2] at this
    omega
   ·exfalso
    apply e
    refine opn_of (wel_at (frm_of h).w _ (by omega)) (fun n hn=>?_)
    have g:(x.rounds.take m).getD (m - 1) rnd0=x.rounds.getD (m - 1) rnd0:=take_get (by omega)
    constructor
    ·rcases Classical.em (cel (x.rounds.take m) x.dec 1 (m - 1) n=3) with e3 | e3
     ·have e4:((x.rounds.take m).getD (m - 1) rnd0).rep.getD n 0=3:=e3
      rw [g] at e4
      exact e4
     ·exact absurd ⟨1,n,Or.inl rfl,hn,e3⟩ hno
    ·rcases Classical.em (cel (x.rounds.take m) x.dec 2 (m - 1) n=3) with e3 | e3
     ·have e4:((x.rounds.take m).getD (m - 1) rnd0).pro.getD n 0=3:=e3
      rw [g] at e4
      exact e4
     ·exact absurd ⟨2,n,Or.inr rfl,hn,e3⟩ hno
 have eB:=sub_eq (x:=⟨x.has,x.batch,x.rounds.take m,x.dec⟩) RT b2 hvB (by show (x.rounds.take m).length≤_;omega)
 have eT:=sub_eq (x:=⟨x.has,x.batch,x.rounds.take m,x.dec⟩) RT t2 (fun u hu=>t3 u ((hL u).2 (by rw [← hvt];exact hu))) t5
 have cB:lvC ⟨x.has,x.batch,[opn3],[3,3,3]⟩ L=0:=by
  unfold lvC
  rw [if_pos (ins_of RB),if_neg (by omega),if_pos b1]
  have:layE ⟨x.has,x.batch,[opn3],[3,3,3]⟩ L=⟨x.has,x.batch,x.rounds.take m,x.dec⟩:=by
   unfold layE
   rw [eB.1,eB.2]
  rw [this]
  exact ins_of RT
 have cT:lvC ⟨x.has,x.batch,x.rounds.take m,x.dec⟩ L=0:=by
  unfold lvC
  rw [if_pos (ins_of RT),if_neg (by omega),if_pos t1]
  have:layE ⟨x.has,x.batch,x.rounds.take m,x.dec⟩ L=⟨x.has,x.batch,x.rounds.take m,x.dec⟩:=by
   unfold layE
   rw [eT.1,eT.2]
  rw [this]
  exact ins_of RT
 refine ⟨cB,?_,cT,?_⟩
 ·unfold lvI
  rw [if_pos cB]
  unfold layE
  rw [eB.1,eB.2]
 ·unfold lvI
  rw [if_pos cT]
  unfold layE
  rw [eT.1,eT.2]

end Go.Proofs.YtdhdnppbgaikfaaGreatDoor
namespace Go.Proofs.YtdhdnppbgaikfaaGreatDoor
open Go.RowKit
set_option maxRecDepth 100000
set_option maxHeartbeats 1000000 in
theorem lwBig_any (a:Option Addr) (n cap:Nat) (w:World) (hm:n≤9223372036854775807) :
  Calls Tryz.prog 4 #[.slice a n cap] w fun e w' => e=.returned (.bool (decide (1048576 < (n:Int))))∧w' = w:=by
 go_enter Tryz.func4,Tryz.ntmps4
 go_wp2
 go_ret
 exact ⟨rfl,rfl⟩

end Go.Proofs.YtdhdnppbgaikfaaGreatDoor
namespace Go.Proofs.YtdhdnppbgaikfaaGreatDoor
open Go.RowKit Go.Deep Go.ChangeShapes Go.WideShapes
set_option maxRecDepth 100000
end Go.Proofs.YtdhdnppbgaikfaaGreatDoor
namespace Go.Proofs.YtdhdnppbgaikfaaGreatDoor
open Go.RowKit Go.Deep Go.ChangeShapes Go.WideShapes
set_option maxRecDepth 100000
end Go.Proofs.YtdhdnppbgaikfaaGreatDoor
namespace Go.Proofs.YtdhdnppbgaikfaaGreatDoor
open Go.RowKit Go.Deep Go.ChangeShapes Go.WideShapes
set_option maxRecDepth 100000
end Go.Proofs.YtdhdnppbgaikfaaGreatDoor
namespace Go.Proofs.YtdhdnppbgaikfaaGreatDoor
open Go.RowKit Go.ChangeShapes Go.WideShapes
set_option maxRecDepth 100000
theorem gRul : Tryz.prog.globalNamed "loop.example/g00631/impl.rules" = some 1 := by kernel_rfl

theorem tRul:(Tryz.prog.globals[1]?).map (·.type)=some 189:=by kernel_rfl

theorem cRule:Tryz.prog.cellsOf 181=7:=by kernel_rfl

theorem cCh:Tryz.prog.cellsOf 37=4:=by kernel_rfl

theorem cI:Tryz.prog.cellsOf 2=1:=by kernel_rfl

theorem cB:Tryz.prog.cellsOf 4=1:=by kernel_rfl

section
variable {H:Type} {enc:TypeId × Value→H} {w:World} {base:Nat} {spare:Nat→Bool} {held:Bool}
theorem choice_cells {fuel:Nat} {cs:List Value} {c v:Int} {d k:Bool} {q:List MemPlace} (h:DataW.trod enc Tryz.prog w base spare held fuel 37 cs=some (.agg [.lit (.int .i64 c),.lit (.bool d),.lit (.bool k),.lit (.int .i64 v)],q)):cs=[.int .i64 c,.bool d,.bool k,.int .i64 v]:=by
 obtain ⟨y0,y1,y2,y3,n,hx,hl,h0,h1,h2,h3⟩:=Go.Joins.trod_struct4 Tryz.underlying37 h
 rw [cCh] at hl
 simp only [Prod.mk.injEq,DataW.agg.injEq,List.cons.injEq,and_true] at hx
 obtain ⟨⟨x0,x1,x2,x3⟩,_⟩:=hx
 match cs,hl with
 | [c0,c1,c2,c3],_=>
  simp only [cI,cB,List.drop_zero,List.drop_succ_cons,List.take_succ_cons,List.take_zero] at h0 h1 h2 h3
  obtain ⟨n0,e0,g0,_⟩:=DataW.trod_int Tryz.underlying2 h0
  obtain ⟨n1,e1,g1⟩:=DataW.trod_bool Tryz.underlying4 h1
  obtain ⟨n2,e2,g2⟩:=DataW.trod_bool Tryz.underlying4 h2
  obtain ⟨n3,e3,g3,_⟩:=DataW.trod_int Tryz.underlying2 h3
  simp only [List.cons.injEq,and_true] at e0 e1 e2 e3
  rw [g0] at x0
  rw [g1] at x1
  rw [g2] at x2
  rw [g3] at x3
  simp at x0 x1 x2 x3
  rw [e0,e1,e2,e3,x0,x1,x2,x3]

theorem rule_cells {fuel:Nat} {cs:List Value} {z o p c v:Int} {d k:Bool} {q:List MemPlace} (h:DataW.trod enc Tryz.prog w base spare held fuel 181 cs=some (.agg [.lit (.int .i64 z),.lit (.int .i64 o),.lit (.int .i64 p),.agg [.lit (.int .i64 c),.lit (.bool d),.lit (.bool k),.lit (.int .i64 v)]],q)) :
  cs=[.int .i64 z,.int .i64 o,.int .i64 p,.int .i64 c,.bool d,.bool k,.int .i64 v]:=by
 obtain ⟨y0,y1,y2,y3,n,hx,hl,h0,h1,h2,h3⟩:=Go.Joins.trod_struct4 Tryz.underlying181 h
 rw [cRule] at hl
 simp only [Prod.mk.injEq,DataW.agg.injEq,List.cons.injEq,and_true] at hx
 obtain ⟨⟨x0,x1,x2,x3⟩,_⟩:=hx
 match cs,hl with
 | [c0,c1,c2,c3,c4,c5,c6],_=>
  simp only [cI,cCh,List.drop_zero,List.drop_succ_cons,List.take_succ_cons,List.take_zero] at h0 h1 h2 h3
  obtain ⟨n0,e0,g0,_⟩:=DataW.trod_int Tryz.underlying2 h0
  obtain ⟨n1,e1,g1,_⟩:=DataW.trod_int Tryz.underlying2 h1
  obtain ⟨n2,e2,g2,_⟩:=DataW.trod_int Tryz.underlying2 h2
  obtain ⟨y30,y31⟩:=y3
  dsimp only at x3
  rw [← x3] at h3
  have e3:=choice_cells h3
  simp only [List.cons.injEq,and_true] at e0 e1 e2 e3
  rw [g0] at x0
  rw [g1] at x1
  rw [g2] at x2
  simp at x0 x1 x2
  obtain ⟨e3,e4,e5,e6⟩:=e3
  rw [e0,e1,e2,e3,e4,e5,e6,x0,x1,x2]

end
end Go.Proofs.YtdhdnppbgaikfaaGreatDoor

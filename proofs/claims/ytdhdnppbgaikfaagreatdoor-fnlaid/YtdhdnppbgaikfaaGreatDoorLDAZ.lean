/- Texts joined, with what the laws reach alone. -/
import Derived.Test.YtdhdnppbgaikfaaGreatDoorLDAY
import Derived.Stop.RegionWithIn
set_option linter.unusedVariables false
set_option linter.unusedSimpArgs false
namespace Go.Proofs.YtdhdnppbgaikfaaGreatDoor
open Go.RowKit
open Go.BigFrame
set_option maxRecDepth 100000
theorem batch_pos {p:InstQ} (h:insF p.e=0):∀ t∈p.batch,0 < t.acts.length:=by
 obtain ⟨h6,_⟩:=ins_zero h
 obtain ⟨_,_,_,h7,h8⟩:=shp_zero h6
 cases hh:p.has with
 | true=>exact bat_pos (h8 hh)
 | false=>
  have:p.batch.map TxnQ.e=[]:=h7 hh
  have:p.batch=[]:=by simpa using this
  rw [this]
  intro t ht
  simp at ht

/-- What LayVotes tells, one case beside the other. -/
theorem lv_facts (x:InstE) (L:List VoteD):(insF x≠0→lvC x L=insF x∧lvI x L=ine0)∧(insF x=0→40 < L.length→lvC x L=2∧lvI x L=ine0) ∧
  (insF x=0→¬ 40 < L.length→(layL x.rounds x.dec L).1≠0→lvC x L=(layL x.rounds x.dec L).1∧lvI x L=ine0) ∧
  (insF x=0→¬ 40 < L.length→(layL x.rounds x.dec L).1=0→insF (layE x L)≠0→lvC x L=insF (layE x L)∧lvI x L=ine0) ∧
  (insF x=0→¬ 40 < L.length→(layL x.rounds x.dec L).1=0→insF (layE x L)=0→lvC x L=0∧lvI x L=layE x L):=by
 refine ⟨fun h0=>?_,fun h0 h1=>?_,fun h0 h1 h2=>?_,fun h0 h1 h2 h3=>?_,fun h0 h1 h2 h3=>?_⟩
 ·have e:lvC x L=insF x:=if_neg h0
  exact ⟨e,if_neg (by rw [e];exact h0)⟩
 ·have e:lvC x L=2:=by unfold lvC;rw [if_pos h0,if_pos h1]
  exact ⟨e,if_neg (by rw [e];decide)⟩
 ·have e:lvC x L=(layL x.rounds x.dec L).1:=by unfold lvC;rw [if_pos h0,if_neg h1,if_neg h2]
  exact ⟨e,if_neg (by rw [e];exact h2)⟩
 ·have e:lvC x L=insF (layE x L):=by unfold lvC;rw [if_pos h0,if_neg h1,if_pos h2]
  exact ⟨e,if_neg (by rw [e];exact h3)⟩
 ·have e:lvC x L=0:=by unfold lvC;rw [if_pos h0,if_neg h1,if_pos h2,h3]
  exact ⟨e,if_pos e⟩

set_option maxRecDepth 100000 in
set_option maxHeartbeats 8000000 in
theorem implLayVotes_any (p:InstQ) (va0:Option Addr) (cap0:Nat) (L:List VoteD) (w:World) (hG:RulO w) (h:instK.rd w p) (hl:p.n≤1048576) (hV:VoteRow w va0 L) (hl' : L.length≤1048576) :
  Calls Tryz.prog 8 #[.agg #[.bool p.has,p.vb,p.vr,p.vd],.slice va0 L.length cap0] w fun e w' => ∃ q:InstQ,e=.returned (.agg (resC (lvC p.e L) 0 false false 0 q))∧q.e=lvI p.e L∧instK.own w' q∧(instK.foot q).Nodup∧(∀ k∈instK.foot q,w.heap.size≤k)∧Below w.heap.size w w' := by
 obtain ⟨hl30,hone⟩:=bd_ok h
 have hbo:=fun w hG h=>boardOf_any p w hG h hl
 have hrb:=fun (w' : World) hb=>instK.rd_below (w' := w') h hb
 have hglob:=hG.o.glob
 have hin:=fun (h0:insF p.e=0) (rs:List RoundE) (dec:List Int) w (hT:txnK.At w p.vb p.batch) hw h4 h3=>instance_any p.has p.vb p.batch rs dec w hT (batch_pos h0) (by unfold InstQ.n at hl;omega) hw h4 h3
 change ∀ w hG h,Calls _ _ _ _ fun e w' => e=.returned (.tuple #[.agg (bdOf p).toArray,_])∧_ at hbo
 have HBD:Hid (insF p.e=0→bdOf p=brdC p.has p.vb p.e.rounds p.dec∧Frm p.e.rounds p.dec∧(∀ rs dec,Frm rs dec→InstE.n ⟨p.e.has,p.e.batch,rs,dec⟩≤60)):=fun h0=>⟨if_pos h0,frm_of h0,fun rs dec f=>form_small h0 f.w f.h4 f.d⟩
 have HDE0:=lv_facts p.e L
 have hdec:p.e.dec=p.dec:=rfl
 unfold layE at HDE0
 rw [hdec] at HDE0
 generalize lvC p.e L=D at *
 generalize lvI p.e L=E at *
 have HDE:Hid _:=HDE0
 clear HDE0 hdec
 generalize bdOf p=BD at *
 have hpe:p.e.has=p.has∧p.e.batch=p.batch.map TxnQ.e:=⟨rfl,rfl⟩
 rw [hpe.1,hpe.2] at HBD HDE
 clear hpe
 generalize insF p.e=C at *
 generalize p.e.rounds=rs at *
 obtain ⟨has,vb,batch,vr,rounds,vd,dec⟩:=p
 obtain ⟨ba,bk,rfl⟩:∃ a c,vb=.slice a batch.length c:=h.1.shape
 obtain ⟨va,vk_,rfl⟩:∃ a c,vr=.slice a rounds.length c:=h.2.1.shape
 obtain ⟨da,dk,rfl⟩:∃ a c,vd=.slice a dec.length c:=h.2.2.shape
 dsimp only at hbo hrb HBD HDE hin
 have hT0:txnK.At w (.slice ba batch.length bk) batch:=h.1
 have hB:Below w.heap.size w ((w.alloc (.cells #[.bool has,.slice ba batch.length bk,.slice va rounds.length vk_,.slice da dec.length dk] 28)).alloc (.cells #[.int .i64 0,.int .i64 0,.bool false,.bool false,.int .i64 0,.bool false,.slice none 0 0,.slice none 0 0,.slice none 0 0] 39)):=by go_grown
 have Rb:=Blk.new (w.alloc (.cells #[.bool has,.slice ba batch.length bk,.slice va rounds.length vk_,.slice da dec.length dk] 28)) 39 #[.int .i64 0,.int .i64 0,.bool false,.bool false,.int .i64 0,.bool false,.slice none 0 0,.slice none 0 0,.slice none 0 0]
 simp only [World.size_alloc] at Rb
 have hszB:(Tryz.prog.info? 58).map (·.size)=some BD.toArray.size:=by rw [List.size_toArray,hl30];exact sz_board
 have hold:(#[.int .i64 0,.int .i64 0,.int .i64 0,.int .i64 0,.int .i64 0,.int .i64 0,.int .i64 0,.int .i64 0,.int .i64 0,.int .i64 0,.int .i64 0,.int .i64 0,.int .i64 0,.int .i64 0,.int .i64 0,.int .i64 0,.int .i64 0,.int .i64 0,.int .i64 0,.int .i64 0,.int .i64 0,.int .i64 0,.int .i64 0,.int .i64 0,.int .i64 0,.bool false,.slice none 0 0,.int .i64 0,.int .i64 0,.int .i64 0]:Array Value).size=BD.toArray.size:=(show 30=BD.length from hl30.symm)
 go_enter Tryz.func8,Tryz.ntmps8
 go_wp2_with fail
 generalize ((w.alloc (.cells #[.bool has,.slice ba batch.length bk,.slice va rounds.length vk_,.slice da dec.length dk] 28)).alloc (.cells #[.int .i64 0,.int .i64 0,.bool false,.bool false,.int .i64 0,.bool false,.slice none 0 0,.slice none 0 0,.slice none 0 0] 39))=W at *
 refine (hbo W (hG.r.below hB) (hrb W hB)).mono ?_
 rintro e w1 ⟨rfl,hb1⟩
 replace hB:=hB.trans (hb1.mono hB.size)
 replace Rb:=Rb.below hb1
 have Bz:=Blk.new w1 58 #[.int .i64 0,.int .i64 0,.int .i64 0,.int .i64 0,.int .i64 0,.int .i64 0,.int .i64 0,.int .i64 0,.int .i64 0,.int .i64 0,.int .i64 0,.int .i64 0,.int .i64 0,.int .i64 0,.int .i64 0,.int .i64 0,.int .i64 0,.int .i64 0,.int .i64 0,.int .i64 0,.int .i64 0,.int .i64 0,.int .i64 0,.int .i64 0,.int .i64 0,.bool false,.slice none 0 0,.int .i64 0,.int .i64 0,.int .i64 0]
 have hB2:=below_row (hB.alloc hB.size (.cells #[.int .i64 0,.int .i64 0,.int .i64 0,.int .i64 0,.int .i64 0,.int .i64 0,.int .i64 0,.int .i64 0,.int .i64 0,.int .i64 0,.int .i64 0,.int .i64 0,.int .i64 0,.int .i64 0,.int .i64 0,.int .i64 0,.int .i64 0,.int .i64 0,.int .i64 0,.int .i64 0,.int .i64 0,.int .i64 0,.int .i64 0,.int .i64 0,.int .i64 0,.bool false,.slice none 0 0,.int .i64 0,.int .i64 0,.int .i64 0] 58)) (g:=w1.heap.size) hB.size BD.toArray
 have Rb2:Blk ((w1.alloc (.cells #[.int .i64 0,.int .i64 0,.int .i64 0,.int .i64 0,.int .i64 0,.int .i64 0,.int .i64 0,.int .i64 0,.int .i64 0,.int .i64 0,.int .i64 0,.int .i64 0,.int .i64 0,.int .i64 0,.int .i64 0,.int .i64 0,.int .i64 0,.int .i64 0,.int .i64 0,.int .i64 0,.int .i64 0,.int .i64 0,.int .i64 0,.int .i64 0,.int .i64 0,.bool false,.slice none 0 0,.int .i64 0,.int .i64 0,.int .i64 0] 58)).setRow w1.heap.size BD.toArray) (w.heap.size + 1) 39 #[.int .i64 0,.int .i64 0,.bool false,.bool false,.int .i64 0,.bool false,.slice none 0 0,.slice none 0 0,.slice none 0 0]:=(setRow_other _ _ _ _ (by have:=Rb.lt;omega)).trans (Rb.below ((Below.refl _ _).alloc (Nat.le_refl _) _))
 have B2:=Bz.row BD.toArray
 have hlt2:=Rb.lt
 clear hbo hrb hb1 Rb
 by_cases h0:C=0
 case neg=>
  have E1:Hid (D=C∧E=ine0):=HDE.out.1 h0
  have h0' : (C != 0)=true:=by simpa using h0
  clear HDE HBD h0 B2 hin
  have Rr:=Rb2.row #[.int .i64 C,.int .i64 0,.bool false,.bool false,.int .i64 0,.bool false,.slice none 0 0,.slice none 0 0,.slice none 0 0]
  have hBr:=below_row hB2 (g:=w.heap.size + 1) (by omega) #[.int .i64 C,.int .i64 0,.bool false,.bool false,.int .i64 0,.bool false,.slice none 0 0,.slice none 0 0,.slice none 0 0]
  have hsr:(Tryz.prog.info? 39).map (·.size)=some (#[.int .i64 C,.int .i64 0,.bool false,.bool false,.int .i64 0,.bool false,.slice none 0 0,.slice none 0 0,.slice none 0 0]:Array Value).size:=sz_res
  go_wp2_with (first | (refine st_row (by kernel_rfl) 58 _ _ rfl _ BD.toArray rfl rfl 58 _ Bz hszB hold hone ?_) | (refine st_row (by kernel_rfl) 39 _ _ rfl _ #[.int .i64 C,.int .i64 0,.bool false,.bool false,.int .i64 0,.bool false,.slice none 0 0,.slice none 0 0,.slice none 0 0] rfl rfl 39 _ Rb2 hsr rfl (by simp [Value.oneCell']) ?_))
  obtain ⟨q0,q1,q2,q3,q4,q5,q6,q7,q8⟩:=Rr.cel9
  exact bodyPost_ret (v:=.agg #[.int .i64 C,.int .i64 0,.bool false,.bool false,.int .i64 0,.bool false,.slice none 0 0,.slice none 0 0,.slice none 0 0]) (by simp [results,Tryz.results8,go_sem,q0,q1,q2,q3,q4,q5,q6,q7,q8]) rfl ⟨inst0,by rw [E1.out.1];rfl,E1.out.2.symm,inst0_own _,inst0_nd,fun k hk=>by rw [inst0_ft] at hk;simp at hk,hBr⟩

 case pos=>
  obtain ⟨hBD,hFr,hSm⟩:=HBD.out h0
  subst h0
  have HB9:Hid (BD=brdC has (.slice ba batch.length bk) rs dec):=hBD
  have HSM:Hid (∀ rs dec,Frm rs dec→InstE.n ⟨has,batch.map TxnQ.e,rs,dec⟩≤60):=hSm
  have HDF:Hid ((40 < L.length→D=2∧E=ine0)∧(¬ 40 < L.length→(layL rs dec L).1≠0→D=(layL rs dec L).1∧E=ine0)∧(¬ 40 < L.length→(layL rs dec L).1=0→insF ⟨has,batch.map TxnQ.e,(layL rs dec L).2.1,(layL rs dec L).2.2⟩≠0→D=insF ⟨has,batch.map TxnQ.e,(layL rs dec L).2.1,(layL rs dec L).2.2⟩∧E=ine0)∧(¬ 40 < L.length→(layL rs dec L).1=0→insF ⟨has,batch.map TxnQ.e,(layL rs dec L).2.1,(layL rs dec L).2.2⟩=0→D=0∧E=⟨has,batch.map TxnQ.e,(layL rs dec L).2.1,(layL rs dec L).2.2⟩)):=⟨HDE.out.2.1 rfl,HDE.out.2.2.1 rfl,HDE.out.2.2.2.1 rfl,HDE.out.2.2.2.2 rfl⟩
  clear HDE HBD hBD hSm
  have hLi:(L.length:Int)≤1048576:=by omega
  by_cases h40:40 < L.length
  case pos=>
   have E1:Hid (D=2∧E=ine0):=HDF.out.1 h40
   have h40' : (40:Int) < (L.length:Int):=by omega
   clear HDF B2 hin HB9
   have Rr:=Rb2.row #[.int .i64 2,.int .i64 0,.bool false,.bool false,.int .i64 0,.bool false,.slice none 0 0,.slice none 0 0,.slice none 0 0]
   have hBr:=below_row hB2 (g:=w.heap.size + 1) (by omega) #[.int .i64 2,.int .i64 0,.bool false,.bool false,.int .i64 0,.bool false,.slice none 0 0,.slice none 0 0,.slice none 0 0]
   have hsr:(Tryz.prog.info? 39).map (·.size)=some (#[.int .i64 2,.int .i64 0,.bool false,.bool false,.int .i64 0,.bool false,.slice none 0 0,.slice none 0 0,.slice none 0 0]:Array Value).size:=sz_res
   go_wp2_with (first | (refine st_row (by kernel_rfl) 58 _ _ rfl _ BD.toArray rfl rfl 58 _ Bz hszB hold hone ?_) | (refine st_row (by kernel_rfl) 39 _ _ rfl _ #[.int .i64 2,.int .i64 0,.bool false,.bool false,.int .i64 0,.bool false,.slice none 0 0,.slice none 0 0,.slice none 0 0] rfl rfl 39 _ Rb2 hsr rfl (by simp [Value.oneCell']) ?_))
   obtain ⟨q0,q1,q2,q3,q4,q5,q6,q7,q8⟩:=Rr.cel9
   exact bodyPost_ret (v:=.agg #[.int .i64 2,.int .i64 0,.bool false,.bool false,.int .i64 0,.bool false,.slice none 0 0,.slice none 0 0,.slice none 0 0]) (by simp [results,Tryz.results8,go_sem,q0,q1,q2,q3,q4,q5,q6,q7,q8]) rfl ⟨inst0,by rw [E1.out.1];rfl,E1.out.2.symm,inst0_own _,inst0_nd,fun k hk=>by rw [inst0_ft] at hk;simp at hk,hBr⟩

  case neg=>
   have h40' : ¬ (40:Int) < (L.length:Int):=by omega
   have HDG:Hid (((layL rs dec L).1≠0→D=(layL rs dec L).1∧E=ine0)∧((layL rs dec L).1=0→insF ⟨has,batch.map TxnQ.e,(layL rs dec L).2.1,(layL rs dec L).2.2⟩≠0→D=insF ⟨has,batch.map TxnQ.e,(layL rs dec L).2.1,(layL rs dec L).2.2⟩∧E=ine0)∧((layL rs dec L).1=0→insF ⟨has,batch.map TxnQ.e,(layL rs dec L).2.1,(layL rs dec L).2.2⟩=0→D=0∧E=⟨has,batch.map TxnQ.e,(layL rs dec L).2.1,(layL rs dec L).2.2⟩)):=⟨HDF.out.2.1 h40,HDF.out.2.2.1 h40,HDF.out.2.2.2 h40⟩
   clear HDF
   go_wp2_with (first | (refine st_row (by kernel_rfl) 58 _ _ rfl _ BD.toArray rfl rfl 58 _ Bz hszB hold hone ?_))
   have hgo:w1.heap.size≠0:=by have:=hB.size;omega
   generalize ((w1.alloc (.cells #[.int .i64 0,.int .i64 0,.int .i64 0,.int .i64 0,.int .i64 0,.int .i64 0,.int .i64 0,.int .i64 0,.int .i64 0,.int .i64 0,.int .i64 0,.int .i64 0,.int .i64 0,.int .i64 0,.int .i64 0,.int .i64 0,.int .i64 0,.int .i64 0,.int .i64 0,.int .i64 0,.int .i64 0,.int .i64 0,.int .i64 0,.int .i64 0,.int .i64 0,.bool false,.slice none 0 0,.int .i64 0,.int .i64 0,.int .i64 0] 58)).setRow w1.heap.size BD.toArray)=X at *
   rw [HB9.out] at B2
   clear Bz hszB hold hone hl30 HB9
   go_loopw [27] (fun j wr=>∃ m:Nat,m≤L.length∧j=.int .i64 m∧Hid ((layL rs dec (L.take m)).1=0)∧Blk wr w1.heap.size 58 (brdC has (.slice ba batch.length bk) (layL rs dec (L.take m)).2.1 (layL rs dec (L.take m)).2.2).toArray∧Blk wr (w.heap.size + 1) 39 #[.int .i64 0,.int .i64 0,.bool false,.bool false,.int .i64 0,.bool false,.slice none 0 0,.slice none 0 0,.slice none 0 0]∧Below w.heap.size w wr) (fun j _=>L.length - (intOf j).toNat)
   case atStart=>exact ⟨0,Nat.zero_le _,rfl,(rfl:(0:Int)=0),by simpa [layL] using B2,Rb2,hB2⟩
   case round=>
    obtain ⟨m,hm,rfl,HM,B3,R3,hb⟩:=hrel
    clear B2 Rb2 hB2
    have hFm:Frm (layL rs dec (L.take m)).2.1 (layL rs dec (L.take m)).2.2:=hFr.all _
    have hR3:=R3.lt
    have hg3:=B3.lt
    have hgs:=hB.size
    by_cases hlt:m < L.length
    ·obtain ⟨bb,off,rfl,hbs,c0,c1,c2,c3⟩:=(hV.below hb).at m hlt
     have HT:=layL_take (rs:=rs) (dec:=dec) m hlt HM.out
     have HST:=fun h=>layL_stop (rs:=rs) (dec:=dec) (L:=L) (m + 1) h
     generalize (layL rs dec (L.take m)).2.1=ra at *
     generalize (layL rs dec (L.take m)).2.2=rb at *
     generalize L.getD m voteNo=z at *
     obtain ⟨vk,vr,vn,vv⟩:=z
     dsimp only at c0 c1 c2 c3 HT
     have HHT:Hid (_∧_):=⟨HT,HST⟩
     clear HT HST HM
     have V:=Blk.new wr 44 #[.int .i64 vk,.int .i64 vr,.int .i64 vn,.int .i64 vv]
     have hba:Below wr.heap.size wr (wr.alloc (.cells #[.int .i64 vk,.int .i64 vr,.int .i64 vn,.int .i64 vv] 44)):=by go_grown
     have hO3:=hG.o.below hb
     have hly:=lay_any w1.heap.size has (.slice ba batch.length bk) ra rb vk vr vn vv _ (hO3.below hba) hgo (B3.below hba) hFm
     replace R3:=R3.below hba
     replace hb:=hb.trans (hba.mono hb.size)
     clear B3 hba hO3
     obtain ⟨p0,p1,p2,p3⟩:=V.cel4
     have hki:(m:Int) < (L.length:Int):=by omega
     clear V
     generalize lay1 ra rb ⟨vk,vr,vn,vv⟩=L1 at *
     go_wp2_with fail
     clear p0 p1 p2 p3 c0 c1 c2 c3
     generalize wr.alloc (.cells #[.int .i64 vk,.int .i64 vr,.int .i64 vn,.int .i64 vv] 44)=wv at *
     refine hly.mono ?_
     rintro e w4 ⟨rfl,hB4,hU4⟩
     clear hly
     replace R3:=R3.outs hU4 (by simp only [List.mem_singleton];omega)
     replace hb:=Out.keep hb hU4 hb.size (fun k hk=>by simp only [List.mem_singleton] at hk;omega)
     clear hU4
     by_cases h1:L1=0
     ·subst h1
      have h5:=HHT.out.1
      rw [if_pos rfl] at h5
      have HM' : Hid ((layL rs dec (L.take (m + 1))).1=0):=by show _=_;rw [h5]
      have hB5:Blk w4 w1.heap.size 58 (brdC has (.slice ba batch.length bk) (layL rs dec (L.take (m + 1))).2.1 (layL rs dec (L.take (m + 1))).2.2).toArray:=by
       rw [h5]
       exact hB4 rfl
      clear HHT h5 hB4
      go_wp2
      go_roundw
      case rel=>exact ⟨m + 1,by omega,by go_num,HM',hB5,R3,hb⟩
      case measure=>simp [intOf];omega
     ·have h1' : (L1 != 0)=true:=by simpa using h1
      have h5:=HHT.out.1
      rw [if_neg h1] at h5
      have h6:=HHT.out.2 (by rw [h5];exact h1)
      have E1:Hid (D=L1∧E=ine0):=by
       have:=HDG.out.1 (by rw [h6,h5];exact h1)
       rw [h6,h5] at this
       exact this
      clear HHT h5 h6 hB4 HDG hin
      have Rr:=R3.row #[.int .i64 L1,.int .i64 0,.bool false,.bool false,.int .i64 0,.bool false,.slice none 0 0,.slice none 0 0,.slice none 0 0]
      have hBr:=below_row hb (g:=w.heap.size + 1) (by omega) #[.int .i64 L1,.int .i64 0,.bool false,.bool false,.int .i64 0,.bool false,.slice none 0 0,.slice none 0 0,.slice none 0 0]
      have hsr:(Tryz.prog.info? 39).map (·.size)=some (#[.int .i64 L1,.int .i64 0,.bool false,.bool false,.int .i64 0,.bool false,.slice none 0 0,.slice none 0 0,.slice none 0 0]:Array Value).size:=sz_res
      go_wp2_with (first | (refine st_row (by kernel_rfl) 39 _ _ rfl _ #[.int .i64 L1,.int .i64 0,.bool false,.bool false,.int .i64 0,.bool false,.slice none 0 0,.slice none 0 0,.slice none 0 0] rfl rfl 39 _ R3 hsr rfl (by simp [Value.oneCell']) ?_))
      obtain ⟨q0,q1,q2,q3,q4,q5,q6,q7,q8⟩:=Rr.cel9
      exact bodyPost_ret (v:=.agg #[.int .i64 L1,.int .i64 0,.bool false,.bool false,.int .i64 0,.bool false,.slice none 0 0,.slice none 0 0,.slice none 0 0]) (by simp [results,Tryz.results8,go_sem,q0,q1,q2,q3,q4,q5,q6,q7,q8]) rfl ⟨inst0,by rw [E1.out.1];rfl,E1.out.2.symm,inst0_own _,inst0_nd,fun k hk=>by rw [inst0_ft] at hk;simp at hk,hBr⟩

    ·have hml:m=L.length:=by omega
     subst hml
     rw [List.take_length] at HM B3 hFm
     have HE:=HDG.out.2
     have hin' := fun w hT=>hin (by trivial) (layL rs dec L).2.1 (layL rs dec L).2.2 w hT hFm.w hFm.h4 hFm.d
     have hsm:=HSM.out _ _ hFm
     have hs30:(Tryz.prog.info? 58).map (·.size)=some (brdC has (.slice ba batch.length bk) (layL rs dec L).2.1 (layL rs dec L).2.2).length:=by rw [brdC_length hFm.w hFm.h4 hFm.d];exact sz_board
     have HE2:Hid ((insF ⟨has,batch.map TxnQ.e,(layL rs dec L).2.1,(layL rs dec L).2.2⟩≠0→D=insF ⟨has,batch.map TxnQ.e,(layL rs dec L).2.1,(layL rs dec L).2.2⟩∧E=ine0)∧(insF ⟨has,batch.map TxnQ.e,(layL rs dec L).2.1,(layL rs dec L).2.2⟩=0→D=0∧E=⟨has,batch.map TxnQ.e,(layL rs dec L).2.1,(layL rs dec L).2.2⟩)):=⟨HE.1 HM.out,HE.2 HM.out⟩
     clear HE HDG HSM hin hFm HM
     generalize (layL rs dec L).2.1=ra at *
     generalize (layL rs dec L).2.2=rb at *
     have X4:=rng B3 (brdC has (.slice ba batch.length bk) ra rb) (o:=0) (fun j v hv=>by rw [Nat.zero_add,List.getElem?_toArray];exact hv)
     have hki:¬ (L.length:Int) < (L.length:Int):=by omega
     clear B3
     go_wp2_with (first | (refine ld_g (by kernel_rfl) 58 _ rfl _ _ rfl (brdC has (.slice ba batch.length bk) ra rb) _ X4 Tryz.underlying58 rfl hs30 ?_))
     clear X4 hs30
     refine (hin' wr (hT0.below hb)).mono ?_
     rintro e w5 ⟨q,rfl,eq,oq,nq,gq,hb5⟩
     clear hin'
     have hqn:q.n≤1048576:=by rw [inst_ne,eq];omega
     have L5:∀ k∈instK.foot q,w.heap.size + 2≤k:=fun k hk=>by have:=gq k hk;omega
     have U5:∀ k∈instK.foot q,k < w5.heap.size:=fun k hk=>instK.own_lt oq k hk
     replace R3:=R3.below hb5
     replace hb:=hb.trans (hb5.mono hb.size)
     clear gq hb5 hsm
     have hIF:=fun w hG h=>implInstanceFault_any q w hG h hqn
     rw [eq] at hIF
     have HQ0:Hid (q.e=⟨has,batch.map TxnQ.e,ra,rb⟩∧(instK.foot q).Nodup):=⟨eq,nq⟩
     clear eq nq hqn
     generalize insF ⟨has,batch.map TxnQ.e,ra,rb⟩=IF at *
     obtain ⟨qh,qb,qbs,qr,qrs,qd,qds⟩:=q
     obtain ⟨s1,t1,rfl⟩:∃ a c,qb=.slice a qbs.length c:=oq.1.shape
     obtain ⟨s2,t2,rfl⟩:∃ a c,qr=.slice a qrs.length c:=oq.2.1.shape
     obtain ⟨s3,t3,rfl⟩:∃ a c,qd=.slice a qds.length c:=oq.2.2.shape
     dsimp only at hIF
     have BI:=Blk.new w5 28 #[.bool qh,.slice s1 qbs.length t1,.slice s2 qrs.length t2,.slice s3 qds.length t3]
     have hba:Below w5.heap.size w5 (w5.alloc (.cells #[.bool qh,.slice s1 qbs.length t1,.slice s2 qrs.length t2,.slice s3 qds.length t3] 28)):=by go_grown
     replace oq:=instK.own_out (F:=[]) oq (Out.of_below hba) (fun _ _=>by simp)
     replace R3:=R3.below hba
     replace hb:=hb.trans (hba.mono hb.size)
     have hrd:=instK.own_rd oq
     clear hba
     obtain ⟨p0,p1,p2,p3⟩:=BI.cel4
     go_wp2_with fail
     clear p0 p1 p2 p3
     generalize w5.alloc (.cells #[.bool qh,.slice s1 qbs.length t1,.slice s2 qrs.length t2,.slice s3 qds.length t3] 28)=w6 at *
     refine (hIF w6 (hG.r.below hb) hrd).mono ?_
     rintro e w7 ⟨rfl,hb7⟩
     clear hIF hrd
     replace BI:=BI.below hb7
     replace oq:=instK.own_out (F:=[]) oq (Out.of_below hb7) (fun _ _=>by simp)
     replace R3:=R3.below hb7
     replace hb:=hb.trans (hb7.mono hb.size)
     clear hb7
     by_cases hI:IF=0
     case neg=>
      have hI' : (IF != 0)=true:=by simpa using hI
      have E1:Hid (D=IF∧E=ine0):=HE2.out.1 hI
      clear HE2 oq
      have Rr:=R3.row #[.int .i64 IF,.int .i64 0,.bool false,.bool false,.int .i64 0,.bool false,.slice none 0 0,.slice none 0 0,.slice none 0 0]
      have hBr:=below_row hb (g:=w.heap.size + 1) (by omega) #[.int .i64 IF,.int .i64 0,.bool false,.bool false,.int .i64 0,.bool false,.slice none 0 0,.slice none 0 0,.slice none 0 0]
      have hsr:(Tryz.prog.info? 39).map (·.size)=some (#[.int .i64 IF,.int .i64 0,.bool false,.bool false,.int .i64 0,.bool false,.slice none 0 0,.slice none 0 0,.slice none 0 0]:Array Value).size:=sz_res
      go_wp2_with (first | (refine st_row (by kernel_rfl) 39 _ _ rfl _ #[.int .i64 IF,.int .i64 0,.bool false,.bool false,.int .i64 0,.bool false,.slice none 0 0,.slice none 0 0,.slice none 0 0] rfl rfl 39 _ R3 hsr rfl (by simp [Value.oneCell']) ?_))
      obtain ⟨q0,q1,q2,q3,q4,q5,q6,q7,q8⟩:=Rr.cel9
      exact bodyPost_ret (v:=.agg #[.int .i64 IF,.int .i64 0,.bool false,.bool false,.int .i64 0,.bool false,.slice none 0 0,.slice none 0 0,.slice none 0 0]) (by simp [results,Tryz.results8,go_sem,q0,q1,q2,q3,q4,q5,q6,q7,q8]) rfl ⟨inst0,by rw [E1.out.1];rfl,E1.out.2.symm,inst0_own _,inst0_nd,fun k hk=>by rw [inst0_ft] at hk;simp at hk,hBr⟩

     case pos=>
      obtain ⟨eD,eE⟩:=HE2.out.2 hI
      subst hI
      have hous:∀ cs,instK.own (w7.setRow (w.heap.size + 1) cs) (⟨qh,.slice s1 qbs.length t1,qbs,.slice s2 qrs.length t2,qrs,.slice s3 qds.length t3,qds⟩:InstQ):=fun cs=>instK.own_out oq (out_row w7 (w.heap.size + 1) cs) (fun k hk=>by have:=L5 k hk;simp only [List.mem_singleton];omega)
      have HQ:Hid (((⟨qh,.slice s1 qbs.length t1,qbs,.slice s2 qrs.length t2,qrs,.slice s3 qds.length t3,qds⟩:InstQ)).e=E∧(instK.foot (⟨qh,.slice s1 qbs.length t1,qbs,.slice s2 qrs.length t2,qrs,.slice s3 qds.length t3,qds⟩:InstQ)).Nodup∧(∀ k∈instK.foot (⟨qh,.slice s1 qbs.length t1,qbs,.slice s2 qrs.length t2,qrs,.slice s3 qds.length t3,qds⟩:InstQ),w.heap.size≤k)∧∀ cs,instK.own (w7.setRow (w.heap.size + 1) cs) (⟨qh,.slice s1 qbs.length t1,qbs,.slice s2 qrs.length t2,qrs,.slice s3 qds.length t3,qds⟩:InstQ)):=⟨by rw [HQ0.out.1,eE],HQ0.out.2,fun k hk=>by have:=L5 k hk;omega,hous⟩
      have HD0:Hid (D=0):=eD
      clear HE2 HQ0 eD eE hous L5 U5 oq
      obtain ⟨p0,p1,p2,p3⟩:=BI.cel4
      have Rr:=R3.row #[.int .i64 0,.int .i64 0,.bool false,.bool false,.int .i64 0,.bool qh,.slice s1 qbs.length t1,.slice s2 qrs.length t2,.slice s3 qds.length t3]
      have hBr:=below_row hb (g:=w.heap.size + 1) (by omega) #[.int .i64 0,.int .i64 0,.bool false,.bool false,.int .i64 0,.bool qh,.slice s1 qbs.length t1,.slice s2 qrs.length t2,.slice s3 qds.length t3]
      have hsr:(Tryz.prog.info? 39).map (·.size)=some (#[.int .i64 0,.int .i64 0,.bool false,.bool false,.int .i64 0,.bool qh,.slice s1 qbs.length t1,.slice s2 qrs.length t2,.slice s3 qds.length t3]:Array Value).size:=sz_res
      go_wp2_with (first | (refine st_row (by kernel_rfl) 39 _ _ rfl _ #[.int .i64 0,.int .i64 0,.bool false,.bool false,.int .i64 0,.bool qh,.slice s1 qbs.length t1,.slice s2 qrs.length t2,.slice s3 qds.length t3] rfl rfl 39 _ R3 hsr rfl (by simp [Value.oneCell']) ?_))
      obtain ⟨q0,q1,q2,q3,q4,q5,q6,q7,q8⟩:=Rr.cel9
      exact bodyPost_ret (v:=.agg #[.int .i64 0,.int .i64 0,.bool false,.bool false,.int .i64 0,.bool qh,.slice s1 qbs.length t1,.slice s2 qrs.length t2,.slice s3 qds.length t3]) (by simp [results,Tryz.results8,go_sem,q0,q1,q2,q3,q4,q5,q6,q7,q8]) rfl ⟨(⟨qh,.slice s1 qbs.length t1,qbs,.slice s2 qrs.length t2,qrs,.slice s3 qds.length t3,qds⟩:InstQ),by rw [HD0.out],HQ.out.1,HQ.out.2.2.2 _,HQ.out.2.1,HQ.out.2.2.1,hBr⟩

end Go.Proofs.YtdhdnppbgaikfaaGreatDoor
namespace Go.Proofs.YtdhdnppbgaikfaaGreatDoor
open Go.RowKit Go.Shelf
set_option maxRecDepth 100000
attribute [local go_sem] Oper.semAt_some
/-- The marks of loops that are over, where the answer lies in memory. -/
theorem leaves_marks2 {n:Nat} {P:Program} {fn:Func} {tmps:Array Value} {R:Ending→World→Prop} {B:Nat} (J:World→Prop) (v:Value) (hJ:∀ W D,J W→B≤D→W.heap[D]? = some (.deferred (some []))→J (W.putObj D (.deferred none)))
  (hres:∀ W,J W→(results fn tmps).run P W=.ok v W) (hfin:∀ W,J W→R (.returned v) W):∀ (Ds:List Nat) (W:World),J W→Ds.Nodup→(∀ D∈Ds,B≤D∧W.heap[D]? = some (.deferred (some []))) →
  LeavesInM Fence.wide n P fn tmps R (Ds.map (fun D=>({ target:=.collected D,args:=#[] }:Deferred))) .returning W
 | [],W,h,_,_=>⟨_,hres W h,hfin W h⟩
 | D :: Ds,W,h,hn,hd=>by
  obtain ⟨hn1,hn2⟩:=List.nodup_cons.1 hn
  have h1:=hd D (by simp)
  refine ⟨by simp,.inl ⟨D,_,rfl,run_takeDeferred h1.2,?_⟩⟩
  exact leaves_marks2 J v hJ hres hfin Ds _ (hJ W D h h1.1 h1.2) hn2 (fun E hE=>⟨(hd E (by simp [hE])).1,(World.putObj_heap_other (fun e=>hn1 (by rw [← e];exact hE))).trans (hd E (by simp [hE])).2⟩)

theorem below_from2 {β:Type} {B:Nat} {w:World} (hB:w.heap.size≤B):OwnFrom B (fun (_:β) W=>Below w.heap.size w W):=fun s A C row h hg hr=>h.grown hg h.size (fun j hj=>Nat.le_trans hB (hr j hj).1)

/-- A vote of one of the three kinds. -/
def Spk (x:VoteD):Prop:=x.kind=1∨x.kind=2∨(x.kind=3∧x.round=0)

theorem rvF_kr (kind round:Int) (vs:List Int):∀ i,∀ x∈rvF kind round i vs,x.kind=kind∧x.round=round:=by
 induction vs with
 | nil=>intro i x hx;simp [rvF] at hx
 | cons v r ih=>
  intro i x hx
  simp only [rvF,List.mem_append] at hx
  rcases hx with hx | hx
  ·split at hx
   ·simp at hx
   ·simp at hx;subst hx;exact ⟨rfl,rfl⟩
  ·exact ih _ x hx

theorem vtR_spk (rs:List RoundE):∀ k,∀ x∈vtR k rs,Spk x:=by
 induction rs with
 | nil=>intro k x hx;simp [vtR] at hx
 | cons r t ih=>
  intro k x hx
  simp only [vtR,List.mem_append] at hx
  rcases hx with hx | hx | hx
  ·exact Or.inl (rvF_kr _ _ _ _ x hx).1
  ·exact Or.inr (Or.inl (rvF_kr _ _ _ _ x hx).1)
  ·exact ih _ x hx

theorem vt_spk (rs:List RoundE) (dec:List Int):∀ x∈vtR 0 rs ++ rvF 3 0 0 dec,Spk x:=fun x hx=>by
 rcases List.mem_append.1 hx with h | h
 ·exact vtR_spk rs 0 x h
 ·exact Or.inr (Or.inr (rvF_kr _ _ _ _ x h))

theorem vt_m1 (h : Value) (w : World) : (Go.method 311 103 h "loop.example/g00631/impl.vote").run Tryz.prog w = .ok (161, h) w := by kernel_rfl

theorem vt_m2 (h : Value) (w : World) : (Go.method 311 104 h "loop.example/g00631/impl.vote").run Tryz.prog w = .ok (162, h) w := by kernel_rfl

theorem vt_m3 (h : Value) (w : World) : (Go.method 311 106 h "loop.example/g00631/impl.vote").run Tryz.prog w = .ok (163, h) w := by kernel_rfl

theorem Blk.not_row {W:World} {b:Nat} {t e:TypeId} {cs:Array Value} (h:Blk W b t cs) (hte:t≠e) {base size k:Nat} {v:Value} {xs:List Value} (hr:W.ownsRow base e size v k xs):some b≠v.ownBlock:=by
 rcases hr.2 with ⟨rfl,_⟩ | ⟨g,cap,cur,rfl,_,hgb,_⟩
 ·simp [Value.ownBlock]
 ·intro e'
  obtain rfl:b=g:=by simpa [Value.ownBlock] using e'
  have:=(show W.heap[b]? = _ from h).symm.trans hgb
  simp at this
  exact hte this.2

theorem own_rowB {w:World} {base e size n g:Nat} {t:TypeId} {v:Value} {xs:List Value} {old:Array Value} (h:w.ownsRow base e size v n xs) (hB:Blk w g t old) (hte:t≠e) (cs:Array Value):(w.setRow g cs).ownsRow base e size v n xs:=
 own_outs h (out_row w g cs) (fun k hk hk' => by
  have h1:v.ownBlock=some k:=by simpa [blk] using hk
  simp at hk'
  subst hk'
  exact hB.not_row hte h h1.symm)

theorem calls_in {m m' l₀ f:Nat} {P:Program} {args:Array Value} {w:World} {R:Ending→World→Prop} (h:CallsIn Fence.wide m P f args w R):CallsIn (Fence.wide.inRound l₀) m' P f args w R:=⟨trivial,fun cs _=>h.2 cs (fun d hd=>by cases hd)⟩

theorem Boxed.belowB {W W' : World} {B:Nat} {t:TypeId} {v:Value} (h:Boxed W B t v) (hb:Below W.heap.size W W'):Boxed W' B t v:=(hb.block B h.lt).trans h

theorem kept_all {W w5 w6:World} {B base n:Nat} {v v' : Value} {xs:List Value} {tmp:Obj} (hb5:Below W.heap.size W w5) (hgrow:(w5.alloc tmp).grownBy w6 v.ownBlock) (hrow:W.ownsRow base 44 4 v n xs) (BX:Boxed W B 30 v) :
  W.heap.size≤(w6.setCell ⟨B,0,none⟩ v').heap.size∧∀ (k:Nat) (o:Obj),W.heap[k]? = some o→keepO o=true→(w6.setCell ⟨B,0,none⟩ v').heap[k]? = some o:=by
 have g7:=grownBy_setCell' w6 B v'
 have s5:=hb5.size
 have s6:=hgrow.size
 have s7:=g7.size
 rw [World.size_alloc] at s6
 refine ⟨by omega,fun k o hk ho=>?_⟩
 have hlt:k < W.heap.size:=(Array.getElem?_eq_some_iff.1 hk).1
 have h5:=(hb5.block k hlt).trans hk
 have h6:=(Below.heap_alloc w5 tmp k (by omega)).trans h5
 have h7:=(hgrow.block k (by rw [World.size_alloc];omega) (fun e=>by
  rcases hrow.2 with ⟨rfl,_⟩ | ⟨g,cap,cur,rfl,_,hgb,_⟩
  ·simp [Value.ownBlock] at e
  ·obtain rfl:k=g:=by simpa [Value.ownBlock] using e
   rw [hk] at hgb
   simp only [Option.some.injEq] at hgb
   subst hgb
   simp [keepO] at ho)).trans h6
 exact (g7.block k (by omega) (fun e=>by
  obtain rfl:k=B:=by simpa using e
  rw [show W.heap[k]? = _ from BX] at hk
  simp only [Option.some.injEq] at hk
  subst hk
  simp [keepO] at ho)).trans h7

theorem voteM1 (r n v:Int) (w:World):Calls Tryz.prog 161 #[.agg #[.int .i64 r,.int .i64 n,.int .i64 v]] w fun e w' => e=.returned (.agg #[.int .i64 1,.int .i64 r,.int .i64 n,.int .i64 v])∧Below w.heap.size w w' := by
 go_enter Tryz.func161,Tryz.ntmps161
 go_wp2
 exact bodyPost_ret (v:=.agg #[.int .i64 1,.int .i64 r,.int .i64 n,.int .i64 v]) (by simp [results,Tryz.results161,go_sem]) rfl ⟨rfl,by go_grown⟩

theorem voteM2 (r n v:Int) (w:World):Calls Tryz.prog 162 #[.agg #[.int .i64 r,.int .i64 n,.int .i64 v]] w fun e w' => e=.returned (.agg #[.int .i64 2,.int .i64 r,.int .i64 n,.int .i64 v])∧Below w.heap.size w w' := by
 go_enter Tryz.func162,Tryz.ntmps162
 go_wp2
 exact bodyPost_ret (v:=.agg #[.int .i64 2,.int .i64 r,.int .i64 n,.int .i64 v]) (by simp [results,Tryz.results162,go_sem]) rfl ⟨rfl,by go_grown⟩

theorem voteM3 (n v:Int) (w:World):Calls Tryz.prog 163 #[.agg #[.int .i64 n,.int .i64 v]] w fun e w' => e=.returned (.agg #[.int .i64 3,.int .i64 0,.int .i64 n,.int .i64 v])∧Below w.heap.size w w' := by
 go_enter Tryz.func163,Tryz.ntmps163
 go_wp2
 exact bodyPost_ret (v:=.agg #[.int .i64 3,.int .i64 0,.int .i64 n,.int .i64 v]) (by simp [results,Tryz.results163,go_sem]) rfl ⟨rfl,by go_grown⟩

/-- append on votes, kept whole. -/
def apVt (args:Array Value):Sem Value:=Builtin.append_ #[30,30] 30 args

theorem apVt_eq (args:Array Value):Builtin.append_ #[30,30] 30 args=apVt args:=rfl
attribute [local go_sem ↓] apVt_eq

set_option maxRecDepth 100000 in
set_option maxHeartbeats 8000000 in
theorem implVotesOf_any (p:InstQ) (w:World) (hG:Rul w) (h:instK.rd w p) (hl:p.n≤1048576) :
  Calls Tryz.prog 6 #[.agg #[.bool p.has,p.vb,p.vr,p.vd]] w fun e w' => ∃ a c,e=.returned (.agg #[.int .i64 (insF p.e),.slice a (voL p.e).length c])∧w'.ownsRow w.heap.size 44 4 (.slice a (voL p.e).length c) (voL p.e).length (voteCells (voL p.e))∧Below w.heap.size w w' := by
 obtain ⟨hl30,hone⟩:=bd_ok h
 have hbo:=fun w hG h=>boardOf_any p w hG h hl
 have hrb:=fun (w' : World) hb=>instK.rd_below (w' := w') h hb
 change ∀ w hG h,Calls _ _ _ _ fun e w' => e=.returned (.tuple #[.agg (bdOf p).toArray,_])∧_ at hbo
 have HBD:Hid (insF p.e=0→bdOf p=brdC p.has p.vb p.e.rounds p.dec∧Frm p.e.rounds p.dec):=fun h0=>⟨if_pos h0,frm_of h0⟩
 have HV:Hid ((insF p.e=0→voL p.e=vtR 0 p.e.rounds ++ rvF 3 0 0 p.dec)∧(insF p.e≠0→voL p.e=[])):=⟨fun h=>if_pos h,fun h=>if_neg h⟩
 have HXL0:(voL p.e).length≤27:=voL_len p.e
 generalize voL p.e=VL at *
 generalize bdOf p=BD at *
 generalize insF p.e=C at *
 generalize p.e.rounds=rs at *
 obtain ⟨has,vb,batch,vr,rounds,vd,dec⟩:=p
 obtain ⟨ba,bk,rfl⟩:∃ a c,vb=.slice a batch.length c:=h.1.shape
 obtain ⟨va,vk_,rfl⟩:∃ a c,vr=.slice a rounds.length c:=h.2.1.shape
 obtain ⟨da,dk,rfl⟩:∃ a c,vd=.slice a dec.length c:=h.2.2.shape
 dsimp only at hbo hrb HBD HV
 have hB:Below w.heap.size w ((w.alloc (.cells #[.bool has,.slice ba batch.length bk,.slice va rounds.length vk_,.slice da dec.length dk] 28)).alloc (.cells #[.int .i64 0,.slice none 0 0] 32)):=by go_grown
 have Rb:=Blk.new (w.alloc (.cells #[.bool has,.slice ba batch.length bk,.slice va rounds.length vk_,.slice da dec.length dk] 28)) 32 #[.int .i64 0,.slice none 0 0]
 simp only [World.size_alloc] at Rb
 have hszB:(Tryz.prog.info? 58).map (·.size)=some BD.toArray.size:=by rw [List.size_toArray,hl30];exact sz_board
 have hold:(#[.int .i64 0,.int .i64 0,.int .i64 0,.int .i64 0,.int .i64 0,.int .i64 0,.int .i64 0,.int .i64 0,.int .i64 0,.int .i64 0,.int .i64 0,.int .i64 0,.int .i64 0,.int .i64 0,.int .i64 0,.int .i64 0,.int .i64 0,.int .i64 0,.int .i64 0,.int .i64 0,.int .i64 0,.int .i64 0,.int .i64 0,.int .i64 0,.int .i64 0,.bool false,.slice none 0 0,.int .i64 0,.int .i64 0,.int .i64 0]:Array Value).size=BD.toArray.size:=(show 30=BD.length from hl30.symm)
 refine callsIn_wide.1 (callsIn_of_wp_marks (n:=0) Tryz.func6 rfl trivial (wpIn_wide.2 ?_) rfl)
 simp only [Tryz.ntmps6,List.size_toArray,List.length_cons,List.length_nil,Nat.reduceAdd,Nat.reduceSub,Array.replicate_succ,Array.replicate_zero,List.push_toArray,List.append_toArray,List.nil_append,List.cons_append]
 go_wp2_with fail
 generalize ((w.alloc (.cells #[.bool has,.slice ba batch.length bk,.slice va rounds.length vk_,.slice da dec.length dk] 28)).alloc (.cells #[.int .i64 0,.slice none 0 0] 32))=W at *
 refine (hbo W (hG.below hB) (hrb W hB)).mono ?_
 rintro e w1 ⟨rfl,hb1⟩
 replace hB:=hB.trans (hb1.mono hB.size)
 replace Rb:=Rb.below hb1
 have Bz:=Blk.new w1 58 #[.int .i64 0,.int .i64 0,.int .i64 0,.int .i64 0,.int .i64 0,.int .i64 0,.int .i64 0,.int .i64 0,.int .i64 0,.int .i64 0,.int .i64 0,.int .i64 0,.int .i64 0,.int .i64 0,.int .i64 0,.int .i64 0,.int .i64 0,.int .i64 0,.int .i64 0,.int .i64 0,.int .i64 0,.int .i64 0,.int .i64 0,.int .i64 0,.int .i64 0,.bool false,.slice none 0 0,.int .i64 0,.int .i64 0,.int .i64 0]
 have hB2:=below_row (hB.alloc hB.size (.cells #[.int .i64 0,.int .i64 0,.int .i64 0,.int .i64 0,.int .i64 0,.int .i64 0,.int .i64 0,.int .i64 0,.int .i64 0,.int .i64 0,.int .i64 0,.int .i64 0,.int .i64 0,.int .i64 0,.int .i64 0,.int .i64 0,.int .i64 0,.int .i64 0,.int .i64 0,.int .i64 0,.int .i64 0,.int .i64 0,.int .i64 0,.int .i64 0,.int .i64 0,.bool false,.slice none 0 0,.int .i64 0,.int .i64 0,.int .i64 0] 58)) (g:=w1.heap.size) hB.size BD.toArray
 have Rb2:Blk ((w1.alloc (.cells #[.int .i64 0,.int .i64 0,.int .i64 0,.int .i64 0,.int .i64 0,.int .i64 0,.int .i64 0,.int .i64 0,.int .i64 0,.int .i64 0,.int .i64 0,.int .i64 0,.int .i64 0,.int .i64 0,.int .i64 0,.int .i64 0,.int .i64 0,.int .i64 0,.int .i64 0,.int .i64 0,.int .i64 0,.int .i64 0,.int .i64 0,.int .i64 0,.int .i64 0,.bool false,.slice none 0 0,.int .i64 0,.int .i64 0,.int .i64 0] 58)).setRow w1.heap.size BD.toArray) (w.heap.size + 1) 32 #[.int .i64 0,.slice none 0 0]:=(setRow_other _ _ _ _ (by have:=Rb.lt;omega)).trans (Rb.below ((Below.refl _ _).alloc (Nat.le_refl _) _))
 have B2:=Bz.row BD.toArray
 have hlt2:=Rb.lt
 have hsz2:((w1.alloc (.cells #[.int .i64 0,.int .i64 0,.int .i64 0,.int .i64 0,.int .i64 0,.int .i64 0,.int .i64 0,.int .i64 0,.int .i64 0,.int .i64 0,.int .i64 0,.int .i64 0,.int .i64 0,.int .i64 0,.int .i64 0,.int .i64 0,.int .i64 0,.int .i64 0,.int .i64 0,.int .i64 0,.int .i64 0,.int .i64 0,.int .i64 0,.int .i64 0,.int .i64 0,.bool false,.slice none 0 0,.int .i64 0,.int .i64 0,.int .i64 0] 58)).setRow w1.heap.size BD.toArray).heap.size=w1.heap.size + 1:=by rw [setRow_size,World.size_alloc]
 clear hbo hrb hb1 Rb
 by_cases h0:C=0
 case neg=>
  have hV:=HV.out.2 h0
  subst hV
  have h0' : (C != 0)=true:=by simpa using h0
  clear HV HBD h0 B2
  have Rr:=Rb2.row #[.int .i64 C,.slice none 0 0]
  have hBr:=below_row hB2 (g:=w.heap.size + 1) (by omega) #[.int .i64 C,.slice none 0 0]
  have hsr:(Tryz.prog.info? 32).map (·.size)=some (#[.int .i64 C,.slice none 0 0]:Array Value).size:=by kernel_rfl
  go_wp2_with (first | (refine st_row (by kernel_rfl) 58 _ _ rfl _ BD.toArray rfl rfl 58 _ Bz hszB hold hone ?_) | (refine st_row (by kernel_rfl) 32 _ _ rfl _ #[.int .i64 C,.slice none 0 0] rfl rfl 32 _ Rb2 hsr rfl (by simp [Value.oneCell']) ?_))
  obtain ⟨q0,q1⟩:=Rr.cel2
  exact ⟨.agg #[.int .i64 C,.slice none 0 0],by simp [results,Tryz.results6,go_sem,q0,q1],_,_,rfl,World.ownsRow_nil _ _ _ _,hBr⟩

 case pos=>
  obtain ⟨hBD,hFr⟩:=HBD.out h0
  subst h0
  have hV:=HV.out.1 rfl
  subst hV
  have HB9:Hid (BD=brdC has (.slice ba batch.length bk) rs dec):=hBD
  clear HBD hBD HV
  have hs30:(Tryz.prog.info? 58).map (·.size)=some BD.length:=by rw [hl30];exact sz_board
  have BX:=Boxed.new ((w1.alloc (.cells #[.int .i64 0,.int .i64 0,.int .i64 0,.int .i64 0,.int .i64 0,.int .i64 0,.int .i64 0,.int .i64 0,.int .i64 0,.int .i64 0,.int .i64 0,.int .i64 0,.int .i64 0,.int .i64 0,.int .i64 0,.int .i64 0,.int .i64 0,.int .i64 0,.int .i64 0,.int .i64 0,.int .i64 0,.int .i64 0,.int .i64 0,.int .i64 0,.int .i64 0,.bool false,.slice none 0 0,.int .i64 0,.int .i64 0,.int .i64 0] 58)).setRow w1.heap.size BD.toArray) 30 (.slice none 0 0)
  have hb3:Below ((w1.alloc (.cells #[.int .i64 0,.int .i64 0,.int .i64 0,.int .i64 0,.int .i64 0,.int .i64 0,.int .i64 0,.int .i64 0,.int .i64 0,.int .i64 0,.int .i64 0,.int .i64 0,.int .i64 0,.int .i64 0,.int .i64 0,.int .i64 0,.int .i64 0,.int .i64 0,.int .i64 0,.int .i64 0,.int .i64 0,.int .i64 0,.int .i64 0,.int .i64 0,.int .i64 0,.bool false,.slice none 0 0,.int .i64 0,.int .i64 0,.int .i64 0] 58)).setRow w1.heap.size BD.toArray).heap.size ((w1.alloc (.cells #[.int .i64 0,.int .i64 0,.int .i64 0,.int .i64 0,.int .i64 0,.int .i64 0,.int .i64 0,.int .i64 0,.int .i64 0,.int .i64 0,.int .i64 0,.int .i64 0,.int .i64 0,.int .i64 0,.int .i64 0,.int .i64 0,.int .i64 0,.int .i64 0,.int .i64 0,.int .i64 0,.int .i64 0,.int .i64 0,.int .i64 0,.int .i64 0,.int .i64 0,.bool false,.slice none 0 0,.int .i64 0,.int .i64 0,.int .i64 0] 58)).setRow w1.heap.size BD.toArray) (((w1.alloc (.cells #[.int .i64 0,.int .i64 0,.int .i64 0,.int .i64 0,.int .i64 0,.int .i64 0,.int .i64 0,.int .i64 0,.int .i64 0,.int .i64 0,.int .i64 0,.int .i64 0,.int .i64 0,.int .i64 0,.int .i64 0,.int .i64 0,.int .i64 0,.int .i64 0,.int .i64 0,.int .i64 0,.int .i64 0,.int .i64 0,.int .i64 0,.int .i64 0,.int .i64 0,.bool false,.slice none 0 0,.int .i64 0,.int .i64 0,.int .i64 0] 58)).setRow w1.heap.size BD.toArray).alloc (.cells #[.slice none 0 0] 30)):=(Below.refl _ _).alloc (Nat.le_refl _) _
  have B3:=B2.below hb3
  have X4:=rng B3 BD (o:=0) (fun j v hv=>by rw [Nat.zero_add,List.getElem?_toArray];exact hv)
  have Rb3:=Rb2.below hb3
  have hB3:=hB2.trans (hb3.mono hB2.size)
  have hsz3:(((w1.alloc (.cells #[.int .i64 0,.int .i64 0,.int .i64 0,.int .i64 0,.int .i64 0,.int .i64 0,.int .i64 0,.int .i64 0,.int .i64 0,.int .i64 0,.int .i64 0,.int .i64 0,.int .i64 0,.int .i64 0,.int .i64 0,.int .i64 0,.int .i64 0,.int .i64 0,.int .i64 0,.int .i64 0,.int .i64 0,.int .i64 0,.int .i64 0,.int .i64 0,.int .i64 0,.bool false,.slice none 0 0,.int .i64 0,.int .i64 0,.int .i64 0] 58)).setRow w1.heap.size BD.toArray).alloc (.cells #[.slice none 0 0] 30)).heap.size=w1.heap.size + 2:=by rw [World.size_alloc,hsz2]
  rw [hsz2] at BX
  go_wp2_with (first | (refine st_row (by kernel_rfl) 58 _ _ rfl _ BD.toArray rfl rfl 58 _ Bz hszB hold hone ?_) | (refine ld_g (by kernel_rfl) 58 _ rfl _ _ rfl BD _ X4 Tryz.underlying58 rfl hs30 ?_))
  refine (ballots_any BD _ hl30 hone).mono ?_
  rintro e V2 ⟨rfl,rfl⟩
  clear X4 Bz B2 Rb2 hB2 hb3 B3
  generalize ((w1.alloc (.cells #[.int .i64 0,.int .i64 0,.int .i64 0,.int .i64 0,.int .i64 0,.int .i64 0,.int .i64 0,.int .i64 0,.int .i64 0,.int .i64 0,.int .i64 0,.int .i64 0,.int .i64 0,.int .i64 0,.int .i64 0,.int .i64 0,.int .i64 0,.int .i64 0,.int .i64 0,.int .i64 0,.int .i64 0,.int .i64 0,.int .i64 0,.int .i64 0,.int .i64 0,.bool false,.slice none 0 0,.int .i64 0,.int .i64 0,.int .i64 0] 58)).setRow w1.heap.size BD.toArray).alloc (.cells #[.slice none 0 0] 30)=V1 at *
  have Bb:=Blk.new V1 58 BD.toArray
  have hb4:Below V1.heap.size V1 (V1.alloc (.cells BD.toArray 58)):=(Below.refl _ _).alloc (Nat.le_refl _) _
  replace BX:=BX.alloc (.cells BD.toArray 58)
  replace Rb3:=Rb3.below hb4
  replace hB3:=hB3.trans (hb4.mono hB3.size)
  have hsz4:(V1.alloc (.cells BD.toArray 58)).heap.size=V1.heap.size + 1:=World.size_alloc _ _
  clear hb4
  generalize V1.alloc (.cells BD.toArray 58)=V2 at *
  rw [HB9.out] at Bb
  have HZ:Hid (V2.heap.size=w1.heap.size + 3):=(show V2.heap.size=w1.heap.size + 3 by omega)
  have hS:=vt_spk rs dec
  have HS:Hid (∀ x∈vtR 0 rs ++ rvF 3 0 0 dec,Spk x):=hS
  have hHands:=ballots_hands V1.heap.size has (.slice ba batch.length bk) rs dec V2 Bb hFr
  have HH:Hid _:=hHands
  have hb1s:w.heap.size + 2≤w1.heap.size:=by omega
  clear hS hHands Bb HB9 hsz2 hsz3 hsz4 hs30 hszB hold hone hl30 hFr
  obtain ⟨XS,hXS⟩:∃ XS,XS=vtR 0 rs ++ rvF 3 0 0 dec:=⟨_,rfl⟩
  rw [← hXS] at HS HH HXL0
  have HXL:Hid (XS.length≤27):=HXL0
  clear HXL0
  have HXS:Hid (XS=vtR 0 rs ++ rvF 3 0 0 dec):=hXS
  clear hXS
  go_wp2_with fail
  refine (wpIn_wide (n:=0)).1 ?_
  refine wpIn_hands (gf:=43) (lb:=#[.pointer (some ⟨V1.heap.size,0,none⟩)]) rfl (enters_of Tryz.func43 (by kernel_rfl) rfl) HH.out (fun h1 h2=>h1.trans h2) (fun W l r r' h=>KpV.put W l r r' h) (fun _=>rfl)
   (fun pre W' => (∃ v,Boxed W' (w1.heap.size + 1) 30 v∧W'.ownsRow w.heap.size 44 4 v pre.length (voteCells pre)∧True)∧Blk W' (w.heap.size + 1) 32 #[.int .i64 0,.slice none 0 0]∧Below w.heap.size w W') (OwnFrom.and ((holdsRow_own _ _ _ _ 4 (fun s:List VoteD=>s.length) voteCells (fun _ _=>True)).from _) (OwnFrom.and (blk_from _ _ _ _) (below_from2 hB3.size))) ⟨⟨_,BX,World.ownsRow_nil _ _ _ _,trivial⟩,Rb3,hB3⟩ ?round ?done
  case round=>
   intro l' pre x W0 hl' hpx
   dsimp only [encB]
   gi_wp2
   refine ⟨by trivial,?_⟩
   rintro W2 ⟨⟨v,BX2,oX,_⟩,R2,hB4⟩ hl2
   obtain ⟨ua,uc,rfl⟩:=own_shape oX
   have hx:=HS.out x (by obtain ⟨t,ht⟩:=hpx;rw [← ht];simp)
   obtain ⟨xk,xr,xn,xv⟩:=x
   obtain ⟨i0,hi,hz0,hz1,hz2⟩:=info_parts infoVote
   have hpl:pre.length≤30:=by
    have h1:=hpx.length_le
    have h2:=HXL.out
    rw [List.length_append] at h1
    omega
   rcases hx with h1 | h2 | ⟨h3,h4⟩
   ·dsimp only at h1
    subst h1
    rw [balV_1]
    have cl:=BX2.cell
    have cf:=BX2.frozen
    have hm:=vt_m1
    gi_wp2_with fail
    replace BX2:Boxed W2.drew (w1.heap.size + 1) 30 (.slice ua pre.length uc):=BX2
    replace oX:W2.drew.ownsRow w.heap.size 44 4 (.slice ua pre.length uc) pre.length (voteCells pre):=oX
    have hs2:w.heap.size≤W2.drew.heap.size:=hB4.size
    gi_region_with (refine ⟨trivial,rfl,(calls_in (m:=0) (wide_call10 (voteM1 xr xn xv _))).mono ?_⟩;rintro e w5 ⟨rfl,hb5⟩;have cl5:=(Boxed.belowB BX2 hb5).cell;have cf5:=(Boxed.belowB BX2 hb5).frozen;have cl5a:=((Boxed.belowB BX2 hb5).alloc (.cells #[.int .i64 1,.int .i64 xr,.int .i64 xn,.int .i64 xv] 44)).cell;obtain ⟨v',w6,hr,hown,hgrow,hnil,hat⟩:=run_append_own_at (P:=Tryz.prog) (w5.alloc (.cells #[.int .i64 1,.int .i64 xr,.int .i64 xn,.int .i64 xv] 44)) w.heap.size 30 30 44 i0 (.agg #[.int .i64 0,.int .i64 0,.int .i64 0,.int .i64 0]) 4 32 Tryz.underlying30 hi hz0 hz1 hz2 rfl (by decide) (.slice ua pre.length uc) pre.length (voteCells pre) (own_below (own_below oX hb5) ((Below.refl _ _).alloc (Nat.le_refl _) _)) ⟨w5.heap.size,0,none⟩ 1 1 [.int .i64 1,.int .i64 xr,.int .i64 xn,.int .i64 xv] rfl (by intro j u hj;match j,hj with | 0,hj=>simp at hj;subst hj;simp [Addr.add] | 1,hj=>simp at hj;subst hj;simp [Addr.add] | 2,hj=>simp at hj;subst hj;simp [Addr.add] | 3,hj=>simp at hj;subst hj;simp [Addr.add]) (by intro u hu;simp at hu;rcases hu with rfl | rfl | rfl | rfl <;> rfl) (by unfold maxLen;omega) (by omega) (by have:=hb5.size;rw [World.size_alloc];omega);rw [apVt_eq] at hr;obtain ⟨g',cap',rfl⟩:=ownsRow_succ hown;obtain ⟨b1,b2,o7,k7,bl7⟩:=Boxed.appended (Boxed.belowB BX2 hb5) (show (30:Nat)≠44 by decide) (own_below oX hb5) (by have:=hb5.size;omega) (by omega) hown hgrow;have cl6:=b1.cell;have cf6:=b1.frozen;have HK:Hid _:=kept_all (v' := .slice (some ⟨g',0,none⟩) (pre.length + 1) cap') hb5 hgrow oX BX2;have HB7:Hid _:=bl7;have HO7:Hid _:=o7;have HB2:Hid _:=b2;have HB5:Hid _:=hb5;clear hgrow hnil hat hown k7 bl7 o7 b2 hb5)
    all_goals
     obtain ⟨hsz7,hk7⟩:=HK.out
     refine ⟨⟨hsz7,fun k o _ h0 ho=>hk7 k o h0 (by cases o <;> simp_all [keepO,Obj.isCells])⟩,⟨hsz7,fun k o h0 _ ho=>hk7 k o h0 ho⟩,⟨_,HB2.out,?_,trivial⟩,hk7 _ _ R2 (by decide),?_⟩
     ·rw [List.length_append,voteCells_append,voteCells_one]
      exact HO7.out
     ·exact (hB4.drew.trans (HB5.out.mono hs2)).trans HB7.out
   ·dsimp only at h2
    subst h2
    rw [balV_2]
    have cl:=BX2.cell
    have cf:=BX2.frozen
    have hm:=vt_m2
    gi_wp2_with fail
    replace BX2:Boxed W2.drew (w1.heap.size + 1) 30 (.slice ua pre.length uc):=BX2
    replace oX:W2.drew.ownsRow w.heap.size 44 4 (.slice ua pre.length uc) pre.length (voteCells pre):=oX
    have hs2:w.heap.size≤W2.drew.heap.size:=hB4.size
    gi_region_with (refine ⟨trivial,rfl,(calls_in (m:=0) (wide_call10 (voteM2 xr xn xv _))).mono ?_⟩;rintro e w5 ⟨rfl,hb5⟩;have cl5:=(Boxed.belowB BX2 hb5).cell;have cf5:=(Boxed.belowB BX2 hb5).frozen;have cl5a:=((Boxed.belowB BX2 hb5).alloc (.cells #[.int .i64 2,.int .i64 xr,.int .i64 xn,.int .i64 xv] 44)).cell;obtain ⟨v',w6,hr,hown,hgrow,hnil,hat⟩:=run_append_own_at (P:=Tryz.prog) (w5.alloc (.cells #[.int .i64 2,.int .i64 xr,.int .i64 xn,.int .i64 xv] 44)) w.heap.size 30 30 44 i0 (.agg #[.int .i64 0,.int .i64 0,.int .i64 0,.int .i64 0]) 4 32 Tryz.underlying30 hi hz0 hz1 hz2 rfl (by decide) (.slice ua pre.length uc) pre.length (voteCells pre) (own_below (own_below oX hb5) ((Below.refl _ _).alloc (Nat.le_refl _) _)) ⟨w5.heap.size,0,none⟩ 1 1 [.int .i64 2,.int .i64 xr,.int .i64 xn,.int .i64 xv] rfl (by intro j u hj;match j,hj with | 0,hj=>simp at hj;subst hj;simp [Addr.add] | 1,hj=>simp at hj;subst hj;simp [Addr.add] | 2,hj=>simp at hj;subst hj;simp [Addr.add] | 3,hj=>simp at hj;subst hj;simp [Addr.add]) (by intro u hu;simp at hu;rcases hu with rfl | rfl | rfl | rfl <;> rfl) (by unfold maxLen;omega) (by omega) (by have:=hb5.size;rw [World.size_alloc];omega);rw [apVt_eq] at hr;obtain ⟨g',cap',rfl⟩:=ownsRow_succ hown;obtain ⟨b1,b2,o7,k7,bl7⟩:=Boxed.appended (Boxed.belowB BX2 hb5) (show (30:Nat)≠44 by decide) (own_below oX hb5) (by have:=hb5.size;omega) (by omega) hown hgrow;have cl6:=b1.cell;have cf6:=b1.frozen;have HK:Hid _:=kept_all (v' := .slice (some ⟨g',0,none⟩) (pre.length + 1) cap') hb5 hgrow oX BX2;have HB7:Hid _:=bl7;have HO7:Hid _:=o7;have HB2:Hid _:=b2;have HB5:Hid _:=hb5;clear hgrow hnil hat hown k7 bl7 o7 b2 hb5)
    all_goals
     obtain ⟨hsz7,hk7⟩:=HK.out
     refine ⟨⟨hsz7,fun k o _ h0 ho=>hk7 k o h0 (by cases o <;> simp_all [keepO,Obj.isCells])⟩,⟨hsz7,fun k o h0 _ ho=>hk7 k o h0 ho⟩,⟨_,HB2.out,?_,trivial⟩,hk7 _ _ R2 (by decide),?_⟩
     ·rw [List.length_append,voteCells_append,voteCells_one]
      exact HO7.out
     ·exact (hB4.drew.trans (HB5.out.mono hs2)).trans HB7.out
   ·dsimp only at h3 h4
    subst h3
    subst h4
    rw [balV_3]
    have cl:=BX2.cell
    have cf:=BX2.frozen
    have hm:=vt_m3
    gi_wp2_with fail
    replace BX2:Boxed W2.drew (w1.heap.size + 1) 30 (.slice ua pre.length uc):=BX2
    replace oX:W2.drew.ownsRow w.heap.size 44 4 (.slice ua pre.length uc) pre.length (voteCells pre):=oX
    have hs2:w.heap.size≤W2.drew.heap.size:=hB4.size
    gi_region_with (refine ⟨trivial,rfl,(calls_in (m:=0) (wide_call10 (voteM3 xn xv _))).mono ?_⟩;rintro e w5 ⟨rfl,hb5⟩;have cl5:=(Boxed.belowB BX2 hb5).cell;have cf5:=(Boxed.belowB BX2 hb5).frozen;have cl5a:=((Boxed.belowB BX2 hb5).alloc (.cells #[.int .i64 3,.int .i64 0,.int .i64 xn,.int .i64 xv] 44)).cell;obtain ⟨v',w6,hr,hown,hgrow,hnil,hat⟩:=run_append_own_at (P:=Tryz.prog) (w5.alloc (.cells #[.int .i64 3,.int .i64 0,.int .i64 xn,.int .i64 xv] 44)) w.heap.size 30 30 44 i0 (.agg #[.int .i64 0,.int .i64 0,.int .i64 0,.int .i64 0]) 4 32 Tryz.underlying30 hi hz0 hz1 hz2 rfl (by decide) (.slice ua pre.length uc) pre.length (voteCells pre) (own_below (own_below oX hb5) ((Below.refl _ _).alloc (Nat.le_refl _) _)) ⟨w5.heap.size,0,none⟩ 1 1 [.int .i64 3,.int .i64 0,.int .i64 xn,.int .i64 xv] rfl (by intro j u hj;match j,hj with | 0,hj=>simp at hj;subst hj;simp [Addr.add] | 1,hj=>simp at hj;subst hj;simp [Addr.add] | 2,hj=>simp at hj;subst hj;simp [Addr.add] | 3,hj=>simp at hj;subst hj;simp [Addr.add]) (by intro u hu;simp at hu;rcases hu with rfl | rfl | rfl | rfl <;> rfl) (by unfold maxLen;omega) (by omega) (by have:=hb5.size;rw [World.size_alloc];omega);rw [apVt_eq] at hr;obtain ⟨g',cap',rfl⟩:=ownsRow_succ hown;obtain ⟨b1,b2,o7,k7,bl7⟩:=Boxed.appended (Boxed.belowB BX2 hb5) (show (30:Nat)≠44 by decide) (own_below oX hb5) (by have:=hb5.size;omega) (by omega) hown hgrow;have cl6:=b1.cell;have cf6:=b1.frozen;have HK:Hid _:=kept_all (v' := .slice (some ⟨g',0,none⟩) (pre.length + 1) cap') hb5 hgrow oX BX2;have HB7:Hid _:=bl7;have HO7:Hid _:=o7;have HB2:Hid _:=b2;have HB5:Hid _:=hb5;clear hgrow hnil hat hown k7 bl7 o7 b2 hb5)
    all_goals
     obtain ⟨hsz7,hk7⟩:=HK.out
     refine ⟨⟨hsz7,fun k o _ h0 ho=>hk7 k o h0 (by cases o <;> simp_all [keepO,Obj.isCells])⟩,⟨hsz7,fun k o h0 _ ho=>hk7 k o h0 ho⟩,⟨_,HB2.out,?_,trivial⟩,hk7 _ _ R2 (by decide),?_⟩
     ·rw [List.length_append,voteCells_append,voteCells_one]
      exact HO7.out
     ·exact (hB4.drew.trans (HB5.out.mono hs2)).trans HB7.out
  case done=>
   rintro D1 W1 hD1 ⟨⟨v,BX2,oX,_⟩,R2,hB4⟩ hDD1
   obtain ⟨ua,uc,rfl⟩:=own_shape oX
   have cl:=BX2.cell
   have Rr:=R2.row #[.int .i64 0,.slice ua XS.length uc]
   have hBr:=below_row hB4 (g:=w.heap.size + 1) (by omega) #[.int .i64 0,.slice ua XS.length uc]
   have oXr:=own_rowB oX R2 (by decide) #[.int .i64 0,.slice ua XS.length uc]
   have hDr:(W1.setRow (w.heap.size + 1) #[.int .i64 0,.slice ua XS.length uc]).heap[D1]? = some (.deferred (some [])):=(setRow_other _ _ _ _ (by have:=HZ.out;omega)).trans hDD1
   have hsr:(Tryz.prog.info? 32).map (·.size)=some (#[.int .i64 0,.slice ua XS.length uc]:Array Value).size:=by kernel_rfl
   go_wp2_with (first | (refine st_row (by kernel_rfl) 32 _ _ rfl _ #[.int .i64 0,.slice ua XS.length uc] rfl rfl 32 _ R2 hsr rfl (by simp [Value.oneCell']) ?_))
   exact leaves_marks2 (B:=V2.heap.size) (fun W=>Blk W (w.heap.size + 1) 32 #[.int .i64 0,.slice ua XS.length uc]∧W.ownsRow w.heap.size 44 4 (.slice ua XS.length uc) XS.length (voteCells XS)∧Below w.heap.size w W) (.agg #[.int .i64 0,.slice ua XS.length uc])
    (fun W D hJ hD hd=>⟨(World.putObj_heap_other (by have:=HZ.out;omega)).trans hJ.1,ownsRow_putObj hJ.2.1 _ hd rfl,(below_from2 (β:=Unit) hB3.size).putObj (s:=()) _ hJ.2.2 hD hd rfl⟩)
    (fun W hJ=>by
     have q0:=hJ.1.cell 0 _ rfl
     have q1:=hJ.1.cell 1 _ rfl
     simp [results,Tryz.results6,go_sem,q0,q1])
    (fun W hJ=>by
     have e:=HXS.out
     subst e
     exact ⟨_,_,rfl,hJ.2.1,hJ.2.2⟩) [D1] _ ⟨Rr,oXr,hBr⟩ (by simp) (fun D hD=>by
     simp at hD
     subst hD
     exact ⟨hD1,hDr⟩)

end Go.Proofs.YtdhdnppbgaikfaaGreatDoor

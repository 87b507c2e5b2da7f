/- Own texts in one. Conditions: as named in each. -/
import Derived.Test.YtcgjflamgnjhcaaGreatDoorEoDJ
import Derived.Test.YtcgjflamgnjhcaaGreatDoorEoGJ
import Derived.Test.YtcgjflamgnjhcaaGreatDoorKinJ
import Derived.Test.YtcgjflamgnjhcaaGreatDoorExprPureJ
import Derived.Test.YtcgjflamgnjhcaaGreatDoorSrc1J
import Derived.Deep.Slices
import Derived.Lib.SmallJoins
import Derived.Test.YtcgjflamgnjhcaaGreatDoorEnQJ
set_option linter.unusedVariables false
set_option linter.unusedSimpArgs false
set_option maxRecDepth 100000
set_option maxHeartbeats 8000000
namespace Go.Proofs.YtcgjflamgnjhcaaGreatDoor
open Go.ChangeShapes Go.WideShapes Go.ChangeAt Go.RowKit
theorem fE (v:Value) (w:World):Sem.run Tryz.prog (callFunc 36 #[v]) w=.ok (.enter 36 #[v]) w:=by kernel_rfl
theorem jJ (v:Value) (w:World):Calls Tryz.prog 36 #[v] w fun e w'=>e=.returned (.bool true)∧Below w.heap.size w w':=by
 go_enter Tryz.func36,Tryz.ntmps36
 go_wp2_with fail
 go_ret
 exact ⟨rfl,Below.refl _ _⟩
theorem one_int_cell (w:World) (v:Value) (e:TypeId):∀ j u,([v]:List Value)[j]?=some u→(w.alloc (.cells #[v] e)).cell? ((⟨w.heap.size,0,none⟩:Addr).add j)=some u:=fun j u h=>by
 have hj:j=0:=by have:=(List.getElem?_eq_some_iff.1 h).1;simpa using this
 subst hj;cases h;exact (az w [v] e).c 0 (by simp)
theorem engS_same {W W' w w':World} {q:Qy} {P:List (List Ev)} {eb eb':Nat} {M:List (List Ev)} {late late':Nat} {tb tb':List Pn} {rs rs':List (Rw×Value)} {rdv ckv tv rv rdv' ckv' tv' rv':Value} (h:nJ W q P eb M late tb rs rdv ckv tv rv w) (h':nJ W' q P eb' M late' tb' rs' rdv' ckv' tv' rv' w') :
  late=late'∧∀ out out',netL [] (rs.map Prod.fst)=some out→netL [] (rs'.map Prod.fst)=some out'→out.length=out'.length∧∀ x∈out,x∈out':=by
 obtain ⟨w0,b0,va,vw,vb,ps,V,cs,-,-,-,-,a5,-⟩:=h;obtain ⟨w0',b0',va',vw',vb',ps',V',cs',-,-,-,-,a5',-⟩:=h';obtain ⟨hl,o1,o2,n1,n2,d1,d2,hm⟩:=run_same a5 a5';refine ⟨hl,fun out out' e1 e2=>?_⟩;rw [n1] at e1;rw [n2] at e2;cases e1;cases e2;exact ⟨same_len d1 (gx d2) hm,fun x hx=>(hm x).1 hx⟩
theorem kU {W w:World} {q:Qy} {P:List (List Ev)} {eb:Nat} {M:List (List Ev)} {late:Nat} {tb:List Pn} {rs:List (Rw×Value)} {rdv ckv tv rv:Value} (h:nJ W q P eb M late tb rs rdv ckv tv rv w) (hc:chkQ q=0) (hl:lightM P=true) (h0:0 < P.length) :
  ∃ rva rvc rdg rdc,rv=.slice rva rs.length rvc∧rdv=.slice (some ⟨rdg,0,none⟩) P.length rdc∧w.cell? ⟨eb,0,none⟩=some rdv∧w.cell? ⟨eb,3,none⟩=some (eI late)∧w.cell? ⟨eb,4,none⟩=some rv∧eb < w.heap.size∧(∀ p,p < P.length→w.cell? ⟨rdg,p,none⟩=some (.int .i64 ((M.getD p []).length:Nat)))∧rdg < w.heap.size∧nS M P∧late≤480∧Below W.heap.size W w:=by
 obtain ⟨w0,b0,va,vw,vb,ps,V,cs,a1,-,-,-,a5,a6,-,a8,-⟩:=h;obtain ⟨rva,rvc,e1⟩:=ax a1.en.ro;obtain ⟨g,c,e3,-⟩:=dY a1.rd (by rw [List.length_map,a6.1];exact h0);rw [List.length_map,a6.1] at e3;have h8:=a1.rd;rw [List.length_map,a6.1,e3] at h8;refine ⟨rva,rvc,g,c,e1,e3,a1.en.be.c 0 (by simp),a1.en.be.c 3 (by simp),a1.en.be.c 4 (by simp),a1.en.be.lt,fun p hp=>?_,(aJ h8 g rfl).2,a6,?_,a8⟩
 ·have h9:=h8.cellAt p (by omega);rw [List.getElem?_map,List.getElem?_map,List.getElem?_eq_getElem (by rw [a6.1];exact hp)] at h9;rw [List.getD_eq_getElem?_getD,List.getElem?_eq_getElem (by rw [a6.1];exact hp)];exact h9
 ·have h1:=(ja (oO hc) M).2;have h2:=preM_evs _ _ a6;obtain ⟨-,-,-,h3⟩:=eS a6 hl;rw [a5.late];omega
theorem topTurns_walk (s:ByteArray) (pv tv:Value) (vs:List Value) (P:List (List Ev)) (T:List Int) (w:World) (ht:TabQ w) (hP:PtsR w pv vs P) (hpl:P.length≤maxLen) (hT:pz w tv T) (htl:T.length≤maxLen) :
  Calls Tryz.prog 8 #[.string s,pv,tv] w fun e w'=>e=.returned (.bool true)∧Below w.heap.size w w':=by
 have WK:=aa (works_any w ht);obtain ⟨ap,cp,rfl⟩:=aq hP.row;obtain ⟨at_,ct,rfl⟩:=aq hT;have HT:=aa ht;have HP:=aa hP;have HTT:=aa hT;clear ht hP hT
 go_enter Tryz.func8,Tryz.ntmps8
 go_wp2_with fail;refine WK.out.mono ?_;rintro e w1 ⟨rfl,hb1⟩;have B1:=aa hb1;have ASK:=asked_any s w1 (HT.out.below hb1);unfold qz at ASK;have ASKH:=aa ASK;clear WK hb1 ASK HT;go_wp2_with fail;refine ASKH.out.mono ?_;rintro r w2 ⟨hb,hr⟩;have B2:=nxt B1 hb;clear ASKH B1 hb
 rcases hr with rfl | ⟨q,va,vw,vb,ps,hpq,rfl,hqo⟩
 ·unfold qzV;have B3:=aa (B2.out.trans ((aj w2 (.cells #[.slice none 0 0,.slice none 0 0,.slice none 0 0,.int .i64 0,.int .i64 0,.int .i64 0,.int .i64 0] 28)).mono B2.out.size));go_wp2_with fail;refine bodyPost_ret (v:=.bool true) (by simp [results,Tryz.results8,go_sem]) rfl ?_;exact ⟨rfl,B3.out⟩
 ·have hqg:=qj hqo;obtain ⟨ao,cap,rfl⟩:=aq hqg.ag.row;obtain ⟨a2,c2,rfl⟩:=aq hqg.wh;obtain ⟨a3,c3,rfl⟩:=aq hqg.by_;have hba:=aj w2 (.cells #[Value.slice ao ps.length cap,Value.slice a2 q.wh.length c2,Value.slice a3 q.bys.length c3,Value.int .i64 q.size,Value.int .i64 q.slide,Value.int .i64 q.delay,Value.int .i64 q.late] 28);have B3:=aa (B2.out.trans (hba.mono B2.out.size));have G3:=aa (bf hqg hba);have BQ3:=aa (az w2 [Value.slice ao ps.length cap,Value.slice a2 q.wh.length c2,Value.slice a3 q.bys.length c3,Value.int .i64 q.size,Value.int .i64 q.slide,Value.int .i64 q.delay,Value.int .i64 q.late] 28);have HP3:=aa (fK HP.out B3.out);have HT3:=aa (aA HTT.out B3.out);have FE:=aa (few_any _ _ vs P T _ HP3.out hpl HT3.out htl);have HC:=aa (chk_of_parse hpq);have hlt:=BQ3.out.lt;unfold qyV;clear hqo hqg hba HP HTT hpq;go_wp2_with fail;refine FE.out.mono ?_;rintro e w3 ⟨rfl,hb3⟩;have B4:=aa (B3.out.trans (hb3.mono B3.out.size));obtain ⟨few,hfew⟩:∃ b,(decide (0 < P.length) && (lightM P && decide (T.length≤200)))=b:=⟨_,rfl⟩;rw [hfew];cases few with
  | false =>
   clear FE hb3;go_wp2_with fail;refine bodyPost_ret (v:=.bool true) (by simp [results,Tryz.results8,go_sem]) rfl ?_;exact ⟨rfl,B4.out⟩
  | true =>
   have h09:0 < P.length:=by
    cases h:decide (0 < P.length) with
    | true=>exact of_decide_eq_true h
    | false=>rw [h] at hfew;cases hfew
   have hl9:lightM P=true:=by
    rw [decide_eq_true h09,Bool.true_and] at hfew;exact (Bool.and_eq_true_iff.1 hfew).1
   have ht9:T.length≤200:=by
    rw [decide_eq_true h09,Bool.true_and] at hfew;exact of_decide_eq_true (Bool.and_eq_true_iff.1 hfew).2
   have hP39:=(ft hl9).1;have BQ3:=aa (ai BQ3.out hb3 BQ3.out.lt);have HPX:=aa (fK HP3.out hb3);have HGX:=aa (bf G3.out hb3);have RUN:=mJ 36 _ _ _ _ _ q ps vs P T w3 HGX.out HC.out HPX.out h09 hl9 (aA HT3.out hb3) (by omega) (fun v w=>fE v w) (fun eb M late tb rs rdv ckv tv rv w h=>jJ _ w);unfold qyV at RUN;have RUNH:=aa RUN;have q0:w3.cell? ⟨w2.heap.size,0,none⟩=some (Value.slice ao ps.length cap):=BQ3.out.c 0 (by simp);have q1:w3.cell? ⟨w2.heap.size,1,none⟩=some (Value.slice a2 q.wh.length c2):=BQ3.out.c 1 (by simp);have q2:w3.cell? ⟨w2.heap.size,2,none⟩=some (Value.slice a3 q.bys.length c3):=BQ3.out.c 2 (by simp);have q3:w3.cell? ⟨w2.heap.size,3,none⟩=some (Value.int .i64 q.size):=BQ3.out.c 3 (by simp);have q4:w3.cell? ⟨w2.heap.size,4,none⟩=some (Value.int .i64 q.slide):=BQ3.out.c 4 (by simp);have q5:w3.cell? ⟨w2.heap.size,5,none⟩=some (Value.int .i64 q.delay):=BQ3.out.c 5 (by simp);have q6:w3.cell? ⟨w2.heap.size,6,none⟩=some (Value.int .i64 q.late):=BQ3.out.c 6 (by simp);have lq3:=BQ3.out.lt;obtain ⟨i0,hi,hz0,hz1,hz2⟩:=info_parts infoI;clear RUN FE hb3 HP3 HT3 G3 hfew;go_wp2_with fail;refine RUNH.out.mono ?_;rintro e w4 ⟨eb,late,tb,rs,rdv,ckv,tv,rv,rfl,hE⟩;have HE0:=aa hE;obtain ⟨rva,rvc,rdg,rdc,rfl,rfl,e0,e3,e4,leb,hrd,lrd,hpre,hlt48,a8⟩:=kU hE HC.out hl9 h09;have BQ4:=aa (ai BQ3.out a8 BQ3.out.lt);have HB4:=aa (B4.out.trans (a8.mono B4.out.size));have HRD:=aa hrd;have E0:=aa e0;obtain ⟨l1,l2,l3,l4⟩:=eS hpre hl9;have hev:=preM_evs _ _ hpre;have HALL:=aa (ones_all hP39 hpre);have hmlen:=hpre.1;have HA8:=aa a8;generalize runM P T=M at *;clear hE RUNH hrd e3 e4 hpre a8 l1 l2 q0 q1 q2 q3 q4 q5 q6 e0;go_wp2_with fail
   go_loopw [11,12] (fun ov i wr=>∃ p:Nat,p≤P.length∧i=.int .i64 p∧Hid (wr.ownsRow w4.heap.size 3 1 ov (ej M p).length ((ej M p).map (Value.int .i64)))∧Hid (Below w4.heap.size w4 wr)) (fun _ i _=>P.length - (intOf i).toNat)
   case atStart=>exact ⟨0,Nat.zero_le _,rfl,⟨rfl,.inl ⟨rfl,rfl⟩⟩,Below.refl _ _⟩
   case round =>
    obtain ⟨p,hp,rfl,HO,HB⟩:=hrel;obtain ⟨oa,oc,rfl⟩:=ax HO.out
    by_cases hlt:p < P.length
    ·go_wp2_with fail;have hk40:(M.getD p []).length≤120∧(ej M p).length+(M.getD p []).length≤120:=by
      have h1:=iS M (p+1) (by omega);rw [fP,List.length_append,List.length_replicate] at h1;have h2:=lU M (p+1);omega
     obtain ⟨kn_,hkn⟩:∃ k,(M.getD p []).length=k:=⟨_,rfl⟩;have hrp:=HRD.out p hlt;rw [hkn] at hk40 hrp;have HSUC:Hid (ej M (p+1)=ej M p++List.replicate kn_ (p:Int)):=by
      show _=_
      rw [fP,hkn]
     have HRP:=aa hrp;clear hrp
     go_loopw [11,13] (fun ov2 j wx=>∃ k:Nat,k≤kn_∧j=.int .i64 k∧Hid (wx.ownsRow w4.heap.size 3 1 ov2 (ej M p++List.replicate k (p:Int)).length ((ej M p++List.replicate k (p:Int)).map (Value.int .i64)))∧Hid (Below w4.heap.size w4 wx)) (fun _ j _=>kn_ - (intOf j).toNat)
     case atStart=>exact ⟨0,Nat.zero_le _,rfl,by simpa using HO,HB⟩
     case round =>
      clear HO HB;obtain ⟨k,hk,rfl,HO,HB⟩:=hrel;obtain ⟨oa2,oc2,rfl⟩:=ax HO.out;have x0:wr.cell? ⟨eb,0,none⟩=some (.slice (some ⟨rdg,0,none⟩) P.length rdc):=(HB.out.cell (p:=⟨eb,0,none⟩) leb).trans E0.out;have x1:wr.cell? ⟨rdg,p,none⟩=some (.int .i64 (kn_:Nat)):=(HB.out.cell (p:=⟨rdg,p,none⟩) lrd).trans HRP.out;have lebr:=Nat.lt_of_lt_of_le leb HB.out.size;have lrdr:=Nat.lt_of_lt_of_le lrd HB.out.size;have hll:(ej M p++List.replicate k (p:Int)).length≤120:=by rw [List.length_append,List.length_replicate];omega
      by_cases hkl:k < kn_
      ·go_wp2_with (at_builtin;go_must (refine wpList_append_own _ rfl (.tmp 62) (.tmp 64) 56 rfl w4.heap.size 3 i0 (.int .i64 0) 1 8 Tryz.underlying56 hi hz0 hz1 hz2 rfl (by decide) _ _ _ rfl (HO.out.alloc _) ⟨wr.heap.size,0,none⟩ 1 1 [.int .i64 (p:Int)] rfl rfl (one_int_cell _ _ _) (by intro u hu;simp at hu;subst hu;rfl) (by show _≤2 ^ 63 - 1;omega) (by omega) (by have:=HB.out.size;simp;omega) ?_))
       intro v' w5 ho5 hg5 _;have ho6:w5.ownsRow w4.heap.size 3 1 v' (ej M p++List.replicate (k+1) (p:Int)).length ((ej M p++List.replicate (k+1) (p:Int)).map (Value.int .i64)):=by
        have e9:(ej M p++List.replicate (k+1) (p:Int))=(ej M p++List.replicate k (p:Int))++[(p:Int)]:=by rw [List.replicate_succ',List.append_assoc]
        rw [e9]
        simpa [Nat.add_assoc] using ho5
       obtain ⟨oa5,oc5,rfl⟩:=ax ho6;have HO5:=aa ho6;have HB5:Hid (Below w4.heap.size w4 w5):=(HB.out.alloc HB.out.size _).grown hg5 (by have:=HB.out.size;simp;omega) (fun k2 hk2=>(HO.out.lt k2 (by simpa using hk2)).1);clear ho5 ho6 hg5 x0 x1 HO HB;go_wp2_with fail;go_roundw
       case rel=>exact ⟨k+1,by omega,by go_num,HO5,HB5⟩
       case measure=>simp [intOf];omega
      ·have hke:k=kn_:=by omega
       subst hke;go_wp2_with fail;go_roundw
       case rel=>exact ⟨p+1,by omega,by go_num,by rw [HSUC.out];exact HO,HB⟩
       case measure=>simp [intOf];omega
    ·have hpe:p=P.length:=by omega
     subst hpe;have hlo:(ej M P.length).length≤120:=by
      rw [iS M P.length (by omega)]
      have:=lU M P.length
      omega
     have BQ5:=aa (ai BQ4.out HB.out BQ4.out.lt);have HE1:=aa (dA HE0.out HB.out);have HAr:=HA8.out.trans (HB.out.mono HA8.out.size);have RUN:=mJ 36 _ _ _ _ _ q ps vs P (ej M P.length) wr (bf HGX.out HAr) HC.out (fK HPX.out HAr) h09 hl9 (aE HO.out) (by omega) (fun v w=>fE v w) (fun eb M late tb rs rdv ckv tv rv w h=>jJ _ w);unfold qyV at RUN;rw [HALL.out] at RUN;have RUNH:=aa RUN;have q0:wr.cell? ⟨w2.heap.size,0,none⟩=some (Value.slice ao ps.length cap):=BQ5.out.c 0 (by simp);have q1:wr.cell? ⟨w2.heap.size,1,none⟩=some (Value.slice a2 q.wh.length c2):=BQ5.out.c 1 (by simp);have q2:wr.cell? ⟨w2.heap.size,2,none⟩=some (Value.slice a3 q.bys.length c3):=BQ5.out.c 2 (by simp);have q3:wr.cell? ⟨w2.heap.size,3,none⟩=some (Value.int .i64 q.size):=BQ5.out.c 3 (by simp);have q4:wr.cell? ⟨w2.heap.size,4,none⟩=some (Value.int .i64 q.slide):=BQ5.out.c 4 (by simp);have q5:wr.cell? ⟨w2.heap.size,5,none⟩=some (Value.int .i64 q.delay):=BQ5.out.c 5 (by simp);have q6:wr.cell? ⟨w2.heap.size,6,none⟩=some (Value.int .i64 q.late):=BQ5.out.c 6 (by simp);have lq5:=BQ5.out.lt;have HBr:=aa (HB4.out.trans (HB.out.mono HB4.out.size));clear RUN HAr;go_wp2_with fail;refine RUNH.out.mono ?_;rintro e w6 ⟨fb,late2,tb2,rs2,rdv2,ckv2,tv2,rv2,rfl,hF⟩;obtain ⟨rva2,rvc2,rdg2,rdc2,rfl,rfl,-,f3,f4,lfb,-,-,-,hlt2,b8⟩:=kU hF HC.out hl9 h09;have HE2:=aa (dA HE1.out b8);obtain ⟨rva9,rvc9,-,-,he9,-,-,g3,g4,lge,-,-,-,-,-⟩:=kU HE2.out HC.out hl9 h09;cases he9;have HSAME:=aa (engS_same HE2.out hF);have hlate:=HSAME.out.1;subst hlate;have HF:=aa hF;have HB6:=aa (HBr.out.trans (b8.mono HBr.out.size));unfold eI at f3 g3;have kn:=bG w6;obtain ⟨kc,kf⟩:=bn w6;have HW:Hid (Below w6.heap.size w6 w6):=Below.refl _ _;have G4:=aa g4;have F4:=aa f4;clear RUNH hF b8 HE1 HE0 HBr HO q0 q1 q2 q3 q4 q5 q6 g4 f4;go_wp2_with fail;refine aD HW (by kernel_rfl) (by kernel_rfl) ?_
     repeat (go_big_quiet_step (fail))
     refine wpQuiet_nil ?_;rintro _ ⟨pk,rfl⟩;have HP7:=aa pk.h;generalize pk.w=w7 at *;have NE1:=aa (mX (dA HE2.out HP7.out) HC.out hl9);have g4:w7.cell? ⟨eb,4,none⟩=some (.slice rva rs.length rvc):=(HP7.out.cell (p:=⟨eb,4,none⟩) lge).trans G4.out;have lge7:=Nat.lt_of_lt_of_le lge HP7.out.size;clear HW kc kf kn f3 g3;go_simp;go_wp2_with fail;refine NE1.out.mono ?_;rintro e w8 ⟨ua,osa,outa,rfl,oa1,oa2,oa3,oa4,oa5,hb8⟩;obtain ⟨x1_,x2_,rfl⟩:=ax oa1;have NE2:=aa (mX (dA HF.out (HP7.out.trans (hb8.mono HP7.out.size))) HC.out hl9);have f4:w8.cell? ⟨fb,4,none⟩=some (.slice rva2 rs2.length rvc2):=((HP7.out.trans (hb8.mono HP7.out.size)).cell (p:=⟨fb,4,none⟩) lfb).trans F4.out;have lfb8:=Nat.lt_of_lt_of_le lfb (Nat.le_trans HP7.out.size hb8.size);have OA1:=aa oa1;have OA2:=aa oa2;have OA3:=aa oa3;have OA4:=aa oa4;have HB8:=aa hb8;clear NE1 oa1 oa2 oa3 oa4 hb8 g4;go_wp2_with fail;refine NE2.out.mono ?_;rintro e w9 ⟨ub,osb,outb,rfl,ob1,ob2,ob3,ob4,ob5,hb9⟩;obtain ⟨y1_,y2_,rfl⟩:=ax ob1;have hsm:=HSAME.out.2 outa outb OA3.out ob3;have hlen:osb.length=osa.length:=by
      have e1:=congrArg List.length OA2.out;have e2:=congrArg List.length ob2;rw [List.length_map] at e1 e2;omega
     have AL:=aa (alike_any osa osb _ _ w9 (aA (aE OA1.out) hb9) (fun o ho=>⟨aA (aA (OA4.out o ho).1 HB8.out) hb9,(OA4.out o ho).2⟩) (aE ob1) (fun o ho=>⟨aA (ob4 o ho).1 hb9,(ob4 o ho).2⟩) (by omega) hlen (fun a ha=>by
      have h9:fl a∈outb:=hsm.2 _ (by rw [← OA2.out];exact List.mem_map_of_mem ha);rw [← ob2] at h9;obtain ⟨b,hb,e⟩:=List.mem_map.1 h9;exact ⟨b,hb,e.symm⟩))
     have HB9:=aa (((HB6.out.trans (HP7.out.mono HB6.out.size)).trans (HB8.out.mono (Nat.le_trans HB6.out.size HP7.out.size))).trans (hb9.mono (Nat.le_trans HB6.out.size (Nat.le_trans HP7.out.size HB8.out.size))));rw [hlen] at AL;clear NE2 ob1 ob2 ob3 ob4 hb9 f4 hsm;go_wp2_with fail
     first | (rw [hlen];skip) | skip
     refine AL.out.mono ?_;rintro e w10 ⟨rfl,hb10⟩;have HBX:=aa (HB9.out.trans (hb10.mono HB9.out.size));clear AL hb10;go_wp2_with fail;refine bodyPost_ret (v:=.bool true) (by simp [results,Tryz.results8,go_sem]) rfl ?_;exact ⟨rfl,HBX.out⟩
theorem list4 {α:Type} {cs:List α} (h:cs.length=4):∃ a b c d,cs=[a,b,c,d]:=by
 match cs,h with
 | [a,b,c,d],_=>exact ⟨a,b,c,d,rfl⟩
theorem list7 {α:Type} {cs:List α} (h:cs.length=7):∃ a b c d e f g,cs=[a,b,c,d,e,f,g]:=by
 match cs,h with
 | [a,b,c,d,e,f,g],_=>exact ⟨a,b,c,d,e,f,g,rfl⟩
end Go.Proofs.YtcgjflamgnjhcaaGreatDoor
namespace Go.Proofs.YtcgjflamgnjhcaaGreatDoor
open Go.ChangeShapes Go.WideShapes Go.ChangeAt Go.RowKit
open Go.Joins Go.Deep
theorem cellsEvent:Tryz.prog.cellsOf 43=7:=by kernel_rfl
theorem open_ev {H:Type} {enc:TypeId×Value→H} {W:World} {sp:Nat→Bool} {hd:Bool} {fuel:Nat} {cs:List Value} {x:DataW H×List MemPlace}
  (h:DataW.trod enc Tryz.prog W 0 sp hd fuel 43 cs=some x):∃ e:Ev,cs=gF e:=by
 obtain ⟨xs,k,-,-,hlen,hxl,hf⟩:=DataW.trod_struct Tryz.underlying43 h;rw [cellsEvent] at hlen;obtain ⟨c0,c1,c2,c3,c4,c5,c6,rfl⟩:=list7 hlen;obtain ⟨y0,y1,y2,y3,rfl⟩:=list4 hxl;have g0:DataW.trod enc Tryz.prog W 0 sp hd k 3 (List.take (Tryz.prog.cellsOf 3) (List.drop 0 [c0,c1,c2,c3,c4,c5,c6]))=some y0:=hf 0 _ rfl;have g1:DataW.trod enc Tryz.prog W 0 sp hd k 41 (List.take (Tryz.prog.cellsOf 41) (List.drop 1 [c0,c1,c2,c3,c4,c5,c6]))=some y1:=hf 1 _ rfl;have g2:DataW.trod enc Tryz.prog W 0 sp hd k 41 (List.take (Tryz.prog.cellsOf 41) (List.drop 3 [c0,c1,c2,c3,c4,c5,c6]))=some y2:=hf 2 _ rfl;have g3:DataW.trod enc Tryz.prog W 0 sp hd k 41 (List.take (Tryz.prog.cellsOf 41) (List.drop 5 [c0,c1,c2,c3,c4,c5,c6]))=some y3:=hf 3 _ rfl;rw [cellsInt] at g0;rw [cellsValue] at g1 g2 g3;obtain ⟨n0,e0⟩:=mu g0;obtain ⟨m1,n1,e1,e2⟩:=jZ g1;obtain ⟨m2,n2,e3,e4⟩:=jZ g2;obtain ⟨m3,n3,e5,e6⟩:=jZ g3;exact ⟨⟨n0,m1,n1,m2,n2,m3,n3⟩,by rw [e0,e1,e2,e3,e4,e5,e6];rfl⟩
section
variable {α:Type} {S:Nat} {f:α→List Value}
theorem jp {H:Type} {enc:TypeId×Value→H} {W:World} {v:Value} {x:DataW H×List MemPlace} {ts te:TypeId} {sp:Nat→Bool} {hd:Bool} {fuel:Nat} {Pz:α→Prop} (hf:∀ a,(f a).length=S) (hS:0 < S)
  (hu:Tryz.prog.underlying ts=some (.slice te)) (hc:Tryz.prog.cellsOf te=S) (dflt:α)
  (open1:∀ {fuel:Nat} {cs:List Value} {x:DataW H×List MemPlace},DataW.trod enc Tryz.prog W 0 sp hd fuel te cs=some x→∃ n:α,cs=f n∧Pz n)
  (h:DataW.trod enc Tryz.prog W 0 sp hd fuel ts [v]=some x) :
  ∃ l:List α,bT W v S l.length (rowOf f l)∧l.length≤maxLen∧∀ a∈l,Pz a:=by
 have nilcase:∀ (ao:Option Addr) (cp:Nat),∃ l:List α,bT W (.slice ao 0 cp) S l.length (rowOf f l)∧l.length≤maxLen∧∀ a∈l,Pz a:=fun ao cp =>
  ⟨[],⟨by simp [rowOf],.inl ⟨⟨_,_,rfl⟩,rfl⟩⟩,Nat.zero_le _,fun a ha=>by simp at ha⟩
 rcases open_slice hu h with ⟨hc',-⟩ | ⟨a,ln,cp,m,n,D,Pl,hc',-,hl,hm,hmm,-,hx⟩
 ·simp only [List.cons.injEq,and_true] at hc';subst hc';exact nilcase _ _
 ·simp only [List.cons.injEq,and_true] at hc';subst hc';have hlm:ln≤m:=by rw [hmm];split <;> omega
  rw [hc] at hx;have each:∀ i,i < ln→∃ nd:α,(∀ j,j < S→W.cell? (a.add (i * S+j))=(f nd)[j]?)∧Pz nd:=by
   intro i hi;obtain ⟨cs',h1,h2⟩:=hx i (by omega);obtain ⟨nd,rfl,hp⟩:=open1 h2;obtain ⟨-,hlen,hcell⟩:=World.cells?_some h1;refine ⟨nd,fun j hj=>?_,hp⟩
   have:=hcell j hj
   rw [← this,add_add]
  by_cases h0:ln=0
  ·subst h0;exact nilcase _ _
  ·obtain ⟨g,off,spot⟩:=a;have hspot:spot=none:=by
    obtain ⟨nd,hnd,-⟩:=each 0 (by omega);have h9:=hnd 0 hS;have hlt:0 < (f nd).length:=by rw [hf];exact hS
    rw [List.getElem?_eq_getElem hlt] at h9;exact (by simpa [Addr.add] using World.cell?_spot h9)
   subst hspot;have each2:∀ i,∃ nd:α,i < ln→(∀ j,j < S→W.cell? ⟨g,off+(i * S+j),none⟩=(f nd)[j]?)∧Pz nd:=by
    intro i
    by_cases hi:i < ln
    ·obtain ⟨nd,hnd,hp⟩:=each i hi;exact ⟨nd,fun _=>⟨fun j hj=>by rw [← hnd j hj,add_plain],hp⟩⟩
    ·exact ⟨dflt,fun h=>absurd h hi⟩
   obtain ⟨F,hF⟩:=Classical.axiomOfChoice each2;have hg:g < W.heap.size:=by
    obtain ⟨cs',h1,-⟩:=hx 0 (by omega)
    have:=World.cells?_block h1 (by omega)
    simpa [Addr.add] using this
   have hlen:((List.range ln).map F).length=ln:=by simp
   refine ⟨(List.range ln).map F,⟨bo hf _,.inr ⟨g,off,cp,by rw [hlen],by rw [hlen];omega,by omega,hg,fun j hj=>?_⟩⟩,by rw [hlen];omega,fun a ha=>?_⟩
   ·rw [hlen] at hj;have hi:j / S < ln:=(Nat.div_lt_iff_lt_mul hS).2 hj;have hr:j % S < S:=Nat.mod_lt _ hS;have e:j / S * S+j % S=j:=by rw [Nat.mul_comm];exact Nat.div_add_mod j S
    have h1:=(hF (j / S) hi).1 (j % S) hr;rw [e] at h1;rw [h1,← bU hf ((List.range ln).map F) (j / S) (j % S) (F (j / S)) (by simp [hi]) hr,e]
   ·obtain ⟨i,hi,rfl⟩:=List.mem_map.1 ha;exact (hF i (by simpa using hi)).2
end
end Go.Proofs.YtcgjflamgnjhcaaGreatDoor
namespace Go.Proofs.YtcgjflamgnjhcaaGreatDoor
open Go.ChangeShapes Go.WideShapes Go.ChangeAt Go.RowKit Go.Joins Go.Deep
theorem cellsEvents1:Tryz.prog.cellsOf 50=1:=by kernel_rfl
def oM (p:List Ev×Value):List Value:=[p.2]
theorem open_eventsT {H:Type} {enc:TypeId×Value→H} {W:World} {sp:Nat→Bool} {hd:Bool} {fuel:Nat} {v:Value} {x:DataW H×List MemPlace}
  (h:DataW.trod enc Tryz.prog W 0 sp hd fuel 50 [v]=some x):∃ l:List Ev,bT W v 7 l.length (rowOf gF l):=by
 obtain ⟨l,hr,-,-⟩:=jp (f:=gF) (S:=7) (Pz:=fun _=>True) gQ (by decide) Tryz.underlying50 cellsEvent ⟨0,0,0,0,0,0,0⟩ (fun h=>by
  obtain ⟨n,e⟩:=open_ev h;exact ⟨n,e,trivial⟩) h
 exact ⟨l,hr⟩
theorem open_parts {H:Type} {enc:TypeId×Value→H} {W:World} {sp:Nat→Bool} {hd:Bool} {fuel:Nat} {v:Value} {x:DataW H×List MemPlace}
  (h:DataW.trod enc Tryz.prog W 0 sp hd fuel 49 [v]=some x):∃ (vs:List Value) (M:List (List Ev)),PtsR W v vs M∧M.length≤maxLen:=by
 obtain ⟨ps,hr,hl,hp⟩:=jp (f:=oM) (S:=1) (Pz:=fun p=>bT W p.2 7 p.1.length (rowOf gF p.1)) (fun _=>rfl) (by decide) Tryz.underlying49 cellsEvents1 ([],.slice none 0 0) (fun {fuel cs x} h=>by
  cases fuel with
  | zero=>simp [DataW.trod] at h
  | succ k =>
   have hlen:∃ c,cs=[c]:=by
    rcases open_slice Tryz.underlying50 h with ⟨hc,-⟩ | ⟨a,ln,cp,m,n,D,Pl,hc,-⟩
    ·exact ⟨_,hc⟩
    ·exact ⟨_,hc⟩
   obtain ⟨c,rfl⟩:=hlen;obtain ⟨l,hr⟩:=open_eventsT h;exact ⟨(l,c),rfl,hr⟩) h
 refine ⟨ps.map Prod.snd,ps.map Prod.fst,⟨?_,by simp,fun i v l h1 h2=>?_⟩,by simpa using hl⟩
 ·have e:rowOf oM ps=ps.map Prod.snd:=by
   clear hr hl hp
   induction ps with
   | nil=>rfl
   | cons a l ih=>rw [bQ,ih];rfl
  rw [e] at hr
  simpa using hr
 ·rw [List.getElem?_map] at h1 h2;cases hi:ps[i]? with
  | none=>rw [hi] at h1;simp at h1
  | some p =>
   rw [hi] at h1 h2;simp only [Option.map_some,Option.some.injEq] at h1 h2;subst h1 h2;exact hp p (List.mem_of_getElem? hi)
end Go.Proofs.YtcgjflamgnjhcaaGreatDoor

/- Own texts in one. Conditions: as named in each. -/
import Derived.Test.YtcgjflamgnjhcaaGreatDoorEoCJ
import Derived.Test.YtcgjflamgnjhcaaGreatDoorAskJ
import Derived.Test.YtcgjflamgnjhcaaGreatDoorEnFpJ
import Derived.Test.YtcgjflamgnjhcaaGreatDoorEnQJ
import Derived.Laws.AppendOwnNone
set_option linter.unusedVariables false
set_option linter.unusedSimpArgs false
set_option maxRecDepth 100000
set_option maxHeartbeats 8000000
namespace Go.Proofs.YtcgjflamgnjhcaaGreatDoor
open Go.ChangeShapes Go.WideShapes Go.ChangeAt Go.RowKit
def lit10:ByteArray:=⟨#[115,101,108,101,99,116,32,99,111,117,110,116,40,42,41,32,102,114,111,109,32,101,118,101,110,116,115,32,119,105,110,100,111,119,32,49,48]⟩
def q10:Qy:=⟨[⟨1,[]⟩],[],[],10,10,0,0⟩
theorem parse10:eh lit10=.ok q10:=by kernel_rfl
theorem chk10:chkQ q10=0:=by decide
def e3:Ev:=⟨3,0,0,0,0,0,0⟩
def e12:Ev:=⟨12,0,0,0,0,0,0⟩
theorem adds_nil {ks:List Int} {tb0 tb:List Pn} {rows0 rows:List Rw} {l:List Ct} (h:AddsE ks tb0 rows0 l tb rows) (hl:l=[]):tb=tb0∧rows=rows0:=by
 cases h with
 | nil=>exact ⟨rfl,rfl⟩
 | snoc h a=>simp at hl
theorem nI {ks:List Int} {tb0 tb:List Pn} {rows0 rows:List Rw} {l:List Ct} {c:Ct} (h:AddsE ks tb0 rows0 l tb rows) (hl:l=[c]):qA ks tb0 rows0 c tb rows:=by
 cases h with
 | nil=>simp at hl
 | @snoc cs tb1 tb' rows1 rows' c' h a =>
  have h1:=congrArg List.reverse hl;simp at h1;obtain ⟨rfl,h2⟩:=h1;obtain ⟨rfl,rfl⟩:=adds_nil h h2;exact a
theorem take3:takeC q10 e3 (bE q10 (-1)) (decide ((0:Int)≤-1))=[⟨0,(0,0),[(0,0)]⟩]:=by kernel_rfl
theorem take12:takeC q10 e12 (bE q10 3) (decide ((0:Int)≤3))=[⟨10,(0,0),[(0,0)]⟩]:=by kernel_rfl
theorem works_one (tb:List Pn) (rows:List Rw) (late:Nat) (h:lP q10 [-1] 0 e3 [] [] 0 tb rows late):∃ av,tb=[⟨0,0,0,false,d8 ([1].map gM) [(0,0)],av⟩]∧rows=[]:=by
 obtain ⟨tb1,rows1,ha,-,hs⟩:=h;have h1:=nI ha take3
 rcases h1 with ⟨j,hj,-⟩ | ⟨-,⟨i,av,hi,e⟩,-,er⟩
 ·simp at hj
 ·have hi0:i=0:=by simpa using hi
  subst hi0;have e1:tb1=[⟨0,0,0,false,d8 ([1].map gM) [(0,0)],av⟩]:=e;subst e1;subst er
  rcases hs with ⟨hm,-,-⟩ | ⟨-,e2,e3⟩
  ·exact absurd hm (by decide)
  ·exact ⟨av,e2,e3⟩
theorem works_two (av:Value) (tb:List Pn) (rows:List Rw) (late late':Nat) (h:lP q10 [3] 0 e12 [⟨0,0,0,false,d8 ([1].map gM) [(0,0)],av⟩] [] late tb rows late'):rows=[⟨false,(0,0,0,[(1,1)])⟩]:=by
 obtain ⟨tb1,rows1,ha,-,hs⟩:=h;have h1:=nI ha take12
 rcases h1 with ⟨j,hj,a9,⟨h2,-⟩,-⟩ | ⟨-,⟨i,a9,hi,e⟩,-,er⟩
 ·have hj0:j=0:=by simpa using hj
  subst hj0;have h3:(0:Int)=10:=h2;omega
 ·subst er;have hi1:i=0∨i=1:=by simp at hi;omega
  rcases hi1 with rfl | rfl
  ·rcases hs with ⟨hm,-,-⟩ | ⟨-,-,e3⟩
   ·exact absurd hm (by decide)
   ·rw [e] at e3;exact e3
  ·rcases hs with ⟨hm,-,-⟩ | ⟨-,-,e3⟩
   ·exact absurd hm (by decide)
   ·rw [e] at e3;exact e3
theorem one_row {rs:List (Rw×Value)} {r:Rw} (h:rs.map Prod.fst=[r]):∃ v,rs=[(r,v)]:=by
 cases rs with
 | nil=>simp at h
 | cons x l =>
  simp only [List.map_cons,List.cons.injEq,List.map_eq_nil_iff] at h;obtain ⟨rfl,rfl⟩:=h;exact ⟨x.2,rfl⟩
theorem works_any (w:World) (ht:TabQ w):Calls Tryz.prog 24 #[] w fun e w'=>e=.returned (.bool true)∧Below w.heap.size w w':=by
 have PA:=jl lit10 w ht;unfold jZ at PA;rw [parse10] at PA
 simp only at PA
 unfold lit10 at PA;have HC:=aa chk10;have HW1:=aa works_one;have HW2:=aa works_two;have hz:q10.size=10:=rfl;obtain ⟨q,hq⟩:∃ q,q10=q:=⟨_,rfl⟩;rw [hq] at PA HC HW1 HW2;clear hz hq;have PAH:=aa PA;clear PA ht
 go_enter Tryz.func24,Tryz.ntmps24
 go_wp2_with fail;refine PAH.out.mono ?_;rintro r w1 ⟨hb,va,vw,vb,ps,rfl,hqo⟩;have hqg:=ql hqo;obtain ⟨ao,cap,rfl⟩:=am hqg.ag.row;obtain ⟨a2,c2,rfl⟩:=am hqg.wh;obtain ⟨a3,c3,rfl⟩:=am hqg.by_;have B2:=aa (hb.trans ((aj w1 (.cells #[Value.slice ao ps.length cap,Value.slice a2 q.wh.length c2,Value.slice a3 q.bys.length c3,Value.int .i64 q.size,Value.int .i64 q.slide,Value.int .i64 q.delay,Value.int .i64 q.late] 28)).mono hb.size));have NW:=aa (mQ (P:=[[e3,e12]]) (aR hqg (aj w1 (.cells #[Value.slice ao ps.length cap,Value.slice a2 q.wh.length c2,Value.slice a3 q.bys.length c3,Value.int .i64 q.size,Value.int .i64 q.slide,Value.int .i64 q.delay,Value.int .i64 q.late] 28))) HC.out (by decide) (by decide));have hlt:w.heap.size≤w1.heap.size:=hb.size;have lq:=(ay w1 [Value.slice ao ps.length cap,Value.slice a2 q.wh.length c2,Value.slice a3 q.bys.length c3,Value.int .i64 q.size,Value.int .i64 q.slide,Value.int .i64 q.delay,Value.int .i64 q.late] 28).lt;unfold qyV at NW ⊢;simp only [List.length_cons,List.length_nil] at NW;clear PAH hb hqo hqg;go_wp2_with fail;refine NW.out.mono ?_;rintro e w2 ⟨eb,rdv,ckv0,rfl,hE⟩;have ST1:=aa (jG hE HC.out (by decide) (p:=0) (l:=[]) (l':=[e3,e12]) (x:=e3) rfl rfl rfl);unfold dE e3 at ST1;clear NW hE;go_wp2_with fail;refine ST1.out.mono ?_;rintro e w3 ⟨rfl,late1,tb1,rs1,ckv1,tv1,rv1,E1,S1⟩;obtain ⟨av1,rfl,h1⟩:=HW1.out _ _ _ S1;have hn1:rs1=[]:=by simpa using h1
 subst hn1;have ST2:=aa (jG E1 HC.out (by decide) (p:=0) (l:=[e3]) (l':=[e3,e12]) (x:=e12) rfl rfl rfl);unfold dE at ST2;have he12:e12=⟨12,0,0,0,0,0,0⟩:=rfl;rw [he12] at ST2;clear ST1 E1 S1 h1;go_wp2_with fail;refine ST2.out.mono ?_;rintro e w4 ⟨rfl,late2,tb2,rs2,ckv2,tv2,rv2,E2,S2⟩;have h2:=HW2.out _ _ _ _ _ S2;obtain ⟨v2,rfl⟩:=one_row h2;obtain ⟨w0,b0,va',vw',vb',ps',V,cs,a1,-,-,-,-,-,-,a8,-⟩:=E2;have HBF:=aa (B2.out.trans (a8.mono B2.out.size));have hbe:=a1.en.be;obtain ⟨rva,rvc,rfl⟩:=ax a1.en.ro;have e4:w4.cell? ⟨eb,4,none⟩=some (.slice rva 1 rvc):=hbe.c 4 (by simp);have lebx:=hbe.lt;obtain ⟨gr,cr,hsr,-,lgr⟩:=io a1.en.ro (by simp);cases hsr;have hv2:=(a1.en.rn _ (List.mem_singleton.2 rfl)).1
 simp only at hv2
 obtain ⟨av2,cv2,rfl⟩:=aF hv2;have y4:w4.cell? ⟨gr,4,none⟩=some (.slice av2 1 cv2):=a1.en.ro.cellAt 4 (by simp);obtain ⟨gv,ov,hav,hcv,p1,p2,lgv⟩:=fF (cf hv2) 0 (by simp);cases hav;clear ST2 S2 h2 hbe a1 a8 HW1 HW2 B2;go_wp2_with fail;refine bodyPost_ret (v:=.bool true) (by simp [results,Tryz.results24,go_sem]) rfl ?_;exact ⟨rfl,HBF.out⟩
theorem few_any (pv tv:Value) (vs:List Value) (P:List (List Ev)) (T:List Int) (w:World) (hP:PtsR w pv vs P) (hpl:P.length≤maxLen) (hT:pD w tv T) (htl:T.length≤maxLen) :
  Calls Tryz.prog 26 #[pv,tv] w fun e w'=>e=.returned (.bool (decide (0 < P.length) && (lightM P && decide (T.length≤200))))∧Below w.heap.size w w':=by
 have LI:=aa (light_any pv vs P w hP hpl);obtain ⟨lb,hlb⟩:∃ b,lightM P=b:=⟨_,rfl⟩;rw [hlb] at LI ⊢;obtain ⟨ap,cp,rfl⟩:=am hP.row;obtain ⟨at_,ct,rfl⟩:=am hT;clear hP hT;unfold maxLen at hpl htl
 by_cases h0:0 < P.length
 ·have d0:decide ((0:Int) < (P.length:Int))=true:=decide_eq_true (by omega);rw [decide_eq_true h0,Bool.true_and]
  go_enter Tryz.func26,Tryz.ntmps26
  go_wp2_with fail;refine LI.out.mono ?_;rintro e w1 ⟨rfl,hb⟩;have HB:=aa hb;clear hb LI;cases lb with
  | false =>
   go_wp2_with fail;refine bodyPost_ret (v:=.bool false) (by simp [results,Tryz.results26,go_sem]) rfl ?_;exact ⟨rfl,HB.out⟩
  | true =>
   have d2:decide ((T.length:Int)≤200)=decide (T.length≤200):=by
    by_cases h:T.length≤200
    ·rw [decide_eq_true h,decide_eq_true (by omega)]
    ·rw [decide_eq_false h,decide_eq_false (by omega)]
   go_wp2_with fail;refine bodyPost_ret (v:=.bool (decide (T.length≤200))) (by simp [results,Tryz.results26,go_sem]) rfl ?_;exact ⟨rfl,HB.out⟩
 ·have d0:decide ((0:Int) < (P.length:Int))=false:=decide_eq_false (by omega);rw [decide_eq_false h0,Bool.false_and];have h00:P.length=0:=by omega
  go_enter Tryz.func26,Tryz.ntmps26
  go_wp2_with fail;refine bodyPost_ret (v:=.bool false) (by simp [results,Tryz.results26,go_sem]) rfl ?_;exact ⟨rfl,Below.refl _ _⟩
end Go.Proofs.YtcgjflamgnjhcaaGreatDoor
namespace Go.Proofs.YtcgjflamgnjhcaaGreatDoor
open Go.ChangeShapes Go.WideShapes Go.ChangeAt Go.RowKit
attribute [local go_sem ↓] cK cM
theorem sameVals_gen (l m9:List V2) (u v:Value) (w:World) (hl:l.length≤9223372036854775807) (hm9:m9.length≤9223372036854775807) (hu:bK w u 2 l.length (bW l)) (hv:bK w v 2 m9.length (bW m9)) :
  Calls Tryz.prog 56 #[u,v] w fun e w'=>e=.returned (.bool (decide (l=m9)))∧Below w.heap.size w w':=by
 obtain ⟨au,cu,rfl⟩:=am hu;obtain ⟨av,cv,rfl⟩:=am hv;have HU:=aa hu;have HV:=aa hv;have kn:=bJ w;obtain ⟨kc,kf⟩:=bB w;have HF:Hid (∀ i (h1:i < l.length) (h2:i < m9.length),l[i]≠m9[i]→decide (l=m9)=false):=fun i h1 h2 hn=>decide_eq_false fun e=>hn (by subst e;rfl)
 by_cases hne:l.length=m9.length
 ·have bne:((l.length:Int) != (l.length:Int))=false:=by simp
  have HT:Hid (l=m9→decide (l=m9)=true):=fun e=>decide_eq_true e
  have HLM:Hid (m9.length=l.length):=hne.symm;rw [← hne];generalize decide (l=m9)=b at *;clear hu hv hne hm9
  go_enter Tryz.func56,Tryz.ntmps56
  go_wp2_with fail
  go_loopw [5] (fun i wr=>∃ m:Nat,m≤l.length∧i=.int .i64 m∧Hid (∀ i (h1:i < l.length) (h2:i < m9.length),i < m→l[i]=m9[i])∧Hid (Below w.heap.size w wr)) (fun i _=>l.length - (intOf i).toNat)
  case atStart=>exact ⟨0,Nat.zero_le _,rfl,fun i _ _ h=>absurd h (by omega),Below.refl _ _⟩
  case round =>
   obtain ⟨m,hm,rfl,HM,HW⟩:=hrel
   by_cases hlt:m < l.length
   ·have hlt2:m < m9.length:=by rw [HLM.out];exact hlt
    obtain ⟨g1,o1,rfl,e0,e1,p1,p2,p3⟩:=fF HU.out m hlt;obtain ⟨g2,o2,rfl,f0,f1,q1,q2,q3⟩:=fF HV.out m hlt2;have HEQ:Hid (l[m]=m9[m]→∀ i (h1:i < l.length) (h2:i < m9.length),i < m+1→l[i]=m9[i]):=fun he i h1 h2 hi=>by
     by_cases h9:i=m
     ·subst h9;exact he
     ·exact HM.out i h1 h2 (by omega)
    have HNE:=aa (HF.out m hlt hlt2);clear HM;generalize l[m]=x at *;generalize m9[m]=y at *;obtain ⟨x1,x2⟩:=x;obtain ⟨y1,y2⟩:=y
    simp only at e0 e1 f0 f1
    unfold maxLen at p2 q2;rw [HLM.out] at q1
    by_cases hxy:x1=y1∧x2=y2
    ·obtain ⟨rfl,rfl⟩:=hxy;have HE2:=aa (HEQ.out rfl);have z9:(x1 == x1 && x2 == x2)=true:=by simp
     clear HEQ HNE;go_wp2_with fail;refine aE HW (by kernel_rfl) (by kernel_rfl) ?_
     repeat (go_big_quiet_step (fail))
     refine wpQuiet_nil ?_;rintro _ ⟨pk,rfl⟩;have HP:=aa pk.h;generalize pk.w=wp at *;clear HW;go_wp2_with fail;go_roundw
     case rel=>exact ⟨m+1,by omega,by go_num,HE2,HP⟩
     case measure=>simp [intOf];omega
    ·have z9:(x1 == y1 && x2 == y2)=false:=by
      cases h8:(x1 == y1 && x2 == y2) with
      | false=>rfl
      | true =>
       simp only [Bool.and_eq_true,beq_iff_eq] at h8;exact absurd h8 hxy
     have hb:b=false:=HNE.out (fun e=>hxy (by
      simp only [Prod.mk.injEq] at e;exact e))
     subst hb;clear HEQ HNE;go_wp2_with fail;refine aE HW (by kernel_rfl) (by kernel_rfl) ?_
     repeat (go_big_quiet_step (fail))
     refine wpQuiet_nil ?_;rintro _ ⟨pk,rfl⟩;have HP:=aa pk.h;generalize pk.w=wp at *;clear HW;go_wp2_with fail
     go_ret
     exact ⟨rfl,HP.out⟩
   ·have hml:m=l.length:=by omega
    have hb:b=true:=HT.out (List.ext_getElem HLM.out.symm (fun i h1 h2=>HM.out i h1 h2 (by omega)));subst hb;subst hml;go_wp2_with fail
    go_ret
    exact ⟨rfl,HW.out⟩
 ·have hb:decide (l=m9)=false:=decide_eq_false fun e=>hne (by rw [e])
  have bne:((l.length:Int) != (m9.length:Int))=true:=by simp;omega
  have bne2:((l.length:Int) == (m9.length:Int))=false:=by simp;omega
  rw [hb]
  go_enter Tryz.func56,Tryz.ntmps56
  go_wp2_with fail
  go_ret
  exact ⟨rfl,Below.refl _ _⟩
def eqO (a b:Int×Int×Int×List V2):Bool:=decide (a=b)
theorem iq (st k n st2 k2 n2:Int) (l l2:List V2) (u v:Value) (w:World) (hl:l.length≤9223372036854775807) (hl2:l2.length≤9223372036854775807) (hu:bK w u 2 l.length (bW l)) (hv:bK w v 2 l2.length (bW l2)) :
  Calls Tryz.prog 66 #[.agg #[.int .i64 st,.int .i64 k,.int .i64 n,u],.agg #[.int .i64 st2,.int .i64 k2,.int .i64 n2,v]] w fun e w'=>e=.returned (.bool (eqO (st,k,n,l) (st2,k2,n2,l2)))∧Below w.heap.size w w':=by
 obtain ⟨au,cu,rfl⟩:=am hu;obtain ⟨av,cv,rfl⟩:=am hv;have b1:=(Below.refl w.heap.size w).alloc (Nat.le_refl _) (.cells #[.int .i64 st,.int .i64 k,.int .i64 n,.slice au l.length cu] 78);have b2:=b1.alloc b1.size (.cells #[.int .i64 st2,.int .i64 k2,.int .i64 n2,.slice av l2.length cv] 78);have SV:=aa (sameVals_gen l l2 _ _ _ hl hl2 (aA hu b2) (aA hv b2));have A0:=ah (aN w [.int .i64 st,.int .i64 k,.int .i64 n,.slice au l.length cu] 78 (by simp)) ((Below.refl _ _).alloc (Nat.le_refl _) (.cells #[.int .i64 st2,.int .i64 k2,.int .i64 n2,.slice av l2.length cv] 78)) (by simp);have A1:=aN (w.alloc (.cells #[.int .i64 st,.int .i64 k,.int .i64 n,.slice au l.length cu] 78)) [.int .i64 st2,.int .i64 k2,.int .i64 n2,.slice av l2.length cv] 78 (by simp);rw [show (w.alloc (.cells #[.int .i64 st,.int .i64 k,.int .i64 n,.slice au l.length cu] 78)).heap.size=w.heap.size+1 from by simp] at A1;have B0:=aa A0;have B1:=aa A1;have HA:=aa b2;obtain ⟨c,hc⟩:∃ c,eqO (st,k,n,l) (st2,k2,n2,l2)=c:=⟨_,rfl⟩;obtain ⟨b,hbb⟩:∃ b,decide (l=l2)=b:=⟨_,rfl⟩;have HC:Hid (c=((st == st2) && ((k == k2 && n == n2) && b))):=by
  show c=_
  rw [← hc,← hbb];unfold eqO;rw [Bool.eq_iff_iff]
  simp [and_assoc]
 rw [hc];rw [hbb] at SV;clear b1 b2 A0 A1 hu hv hc hbb
 go_enter Tryz.func66,Tryz.ntmps66
 go_wp2_with fail;refine SV.out.mono ?_;rintro e w1 ⟨rfl,hb⟩;have C0:=ah B0.out hb B0.out.lt;have C1:=ah B1.out hb B1.out.lt;have d0:w1.cell? ⟨w.heap.size,0,none⟩=some (.int .i64 st):=C0.c 0 (by simp);have d1:w1.cell? ⟨w.heap.size,1,none⟩=some (.int .i64 k):=C0.c 1 (by simp);have d2:w1.cell? ⟨w.heap.size,2,none⟩=some (.int .i64 n):=C0.c 2 (by simp);have f0:w1.cell? ⟨w.heap.size+1,0,none⟩=some (.int .i64 st2):=C1.c 0 (by simp);have f1:w1.cell? ⟨w.heap.size+1,1,none⟩=some (.int .i64 k2):=C1.c 1 (by simp);have f2:w1.cell? ⟨w.heap.size+1,2,none⟩=some (.int .i64 n2):=C1.c 2 (by simp);have HB:=nxt HA hb;clear hb C0 C1 B0 B1 SV HA;cases h1:(st == st2) with
 | false =>
  rw [h1] at HC;have hce:c=false:=HC.out;subst hce;go_wp2_with fail
  go_ret
  exact ⟨rfl,HB.out⟩
 | true =>
  rw [h1] at HC;cases h2:(k == k2 && n == n2) with
  | false =>
   rw [h2] at HC;have hce:c=false:=HC.out;subst hce;go_wp2_with fail
   go_ret
   exact ⟨rfl,HB.out⟩
  | true =>
   rw [h2] at HC;have hce:c=b:=HC.out;subst hce;go_wp2_with fail
   go_ret
   exact ⟨rfl,HB.out⟩
end Go.Proofs.YtcgjflamgnjhcaaGreatDoor
namespace Go.Proofs.YtcgjflamgnjhcaaGreatDoor
open Go.ChangeShapes Go.WideShapes Go.ChangeAt Go.RowKit
theorem infoPo:(Tryz.prog.info? 78).map (fun i=>(i.zero,i.size,i.bytes))=some (some (.agg #[.int .i64 0,.int .i64 0,.int .i64 0,.slice none 0 0]),4,48):=by kernel_rfl
theorem fY (w:World) (a b c d:Value) (e:TypeId):∀ j u,([a,b,c,d]:List Value)[j]?=some u→(w.alloc (.cells #[a,b,c,d] e)).cell? ((⟨w.heap.size,0,none⟩:Addr).add j)=some u:=by
 intro j u h;have hj:j < 4:=by simpa using (List.getElem?_eq_some_iff.1 h).1
 have:=World.ownsRow_lit (base:=0) (size:=4) (e:=e) w #[a,b,c,d] 1 (Nat.zero_le _) (by decide) rfl
 have:=this.cellAt j (by omega)
 rw [show (⟨w.heap.size,0,none⟩:Addr).add j=⟨w.heap.size,j,none⟩ from by rcases (by omega:j=0∨j=1∨j=2∨j=3) with rfl | rfl | rfl | rfl <;> rfl,this];exact h
theorem upto_any (b far:Int) (L:List Po) (u:Value) (w:World) (h:bK w u 4 L.length (rowOf b8 L)) (hv:∀ o∈L,bK w o.v 2 o.vs.length (bW o.vs)) (hl:L.length≤1000) (hs:∀ o∈L,-1000≤o.st∧o.st≤9999) (hb:0≤b∧b≤2000) :
  Calls Tryz.prog 34 #[u,.int .i64 b,.int .i64 far] w fun e w'=>∃ u',e=.returned u'∧w'.ownsRow w.heap.size 78 4 u' (uptoO b far L).length (rowOf b8 (uptoO b far L))∧Below w.heap.size w w':=by
 obtain ⟨i0,hi,hz0,hz1,hz2⟩:=info_parts infoPo;obtain ⟨ap,cp,rfl⟩:=am h;have HL:=aa h;have HS:=aa hs;have HV:=aa (fun o (ho:o∈L)=>am (hv o ho));clear h hs hv
 go_enter Tryz.func34,Tryz.ntmps34
 go_wp2_with fail
 go_loopw [7,8] (fun v i wr=>∃ m:Nat,m≤L.length∧i=.int .i64 m∧Hid (wr.ownsRow w.heap.size 78 4 v (uptoO b far (L.take m)).length (rowOf b8 (uptoO b far (L.take m))))∧Hid (Below w.heap.size w wr)) (fun _ i _=>L.length - (intOf i).toNat)
 case atStart=>exact ⟨0,Nat.zero_le _,rfl,World.ownsRow_nil _ _ _ _,Below.refl _ _⟩
 case round =>
  obtain ⟨m,hm,rfl,HO,HB⟩:=hrel;obtain ⟨ao,cap,rfl⟩:=ax HO.out
  by_cases hlt:m < L.length
  ·obtain ⟨g,off,hao,hce,p1,p2,p3⟩:=bj bF (aA HL.out HB.out) m hlt;subst hao;have hst:=HS.out L[m] (List.getElem_mem hlt);obtain ⟨a9,c9,hv9⟩:=HV.out L[m] (List.getElem_mem hlt);have HSN:=aa (uptoO_snoc b far L m hlt);have hul:=uptoO_len b far (L.take m);have hltk:(L.take m).length=m:=by simp;omega
   rw [hltk] at hul;generalize uptoO b far (L.take m)=U at *;generalize L[m]=x at *;obtain ⟨st,k,n,vs,v⟩:=x
   simp only at hst HSN hv9
   subst hv9;unfold maxLen at p2;have y0:wr.cell? ⟨g,off+m * 4,none⟩=some (.int .i64 st):=hce 0 (by omega);have y1:wr.cell? ⟨g,off+m * 4+1,none⟩=some (.int .i64 k):=hce 1 (by omega);have y2:wr.cell? ⟨g,off+m * 4+2,none⟩=some (.int .i64 n):=hce 2 (by omega);have y3:wr.cell? ⟨g,off+m * 4+3,none⟩=some (.slice a9 vs.length c9):=hce 3 (by omega);have hwr:=ju (st+b) (by omega) (by omega);clear hce
   by_cases hc:st+b≤far
   ·have d1:decide (st+b≤far)=true:=decide_eq_true hc;rw [if_pos hc] at HSN
    go_wp2_with (at_builtin;go_must (refine wpList_append_own _ rfl (.tmp 24) (.tmp 29) 51 rfl w.heap.size 78 i0 (.agg #[.int .i64 0,.int .i64 0,.int .i64 0,.slice none 0 0]) 4 48 Tryz.underlying51 hi hz0 hz1 hz2 rfl (by decide) _ _ _ rfl (HO.out.alloc _) ⟨wr.heap.size,0,none⟩ 1 1 [.int .i64 st,.int .i64 k,.int .i64 n,.slice a9 vs.length c9] rfl rfl (fY _ _ _ _ _ _) (by intro u hu;simp at hu;rcases hu with rfl | rfl | rfl | rfl <;> rfl) (by show _≤2 ^ 63 - 1;omega) (by omega) (by have:=HB.out.size;simp;omega) ?_))
    intro v' w3 ho3 hg3 _;have ho4:w3.ownsRow w.heap.size 78 4 v' (uptoO b far (L.take (m+1))).length (rowOf b8 (uptoO b far (L.take (m+1)))):=by
     rw [HSN.out,cB,iU,List.length_append];exact ho3
    have HO3:=aa ho4;have HB3:Hid (Below w.heap.size w w3):=(HB.out.alloc HB.out.size _).grown hg3 (by have:=HB.out.size;simp;omega) (fun k hk=>(HO.out.lt k hk).1);clear ho3 hg3 ho4;go_wp2_with fail;go_roundw
    case rel=>exact ⟨m+1,by omega,by go_num,HO3,HB3⟩
    case measure=>simp [intOf];omega
   ·have d1:decide (st+b≤far)=false:=decide_eq_false hc;rw [if_neg hc,List.append_nil] at HSN;go_wp2_with fail;go_roundw
    case rel=>exact ⟨m+1,by omega,by go_num,by show World.ownsRow _ _ _ _ _ _ _;rw [HSN.out];exact HO.out,HB⟩
    case measure=>simp [intOf];omega
  ·have hme:m=L.length:=by omega
   subst hme;go_wp2_with fail
   go_ret
   refine ⟨_,rfl,?_,HB.out⟩
   have:=HO.out
   simp only [List.take_length] at this ⊢;exact this
end Go.Proofs.YtcgjflamgnjhcaaGreatDoor

/- Several texts in one, each with its own head. What is proved: what the parts say. Conditions: theirs. -/
import Derived.Test.YtcgjflamgnjhcaaGreatDoorEoCJ
import Derived.Test.YtcgjflamgnjhcaaGreatDoorAskJ
import Derived.Test.YtcgjflamgnjhcaaGreatDoorEoLJ
import Derived.Test.YtcgjflamgnjhcaaGreatDoorKinJ
import Derived.Test.YtcgjflamgnjhcaaGreatDoorExpr1J
import Derived.Test.YtcgjflamgnjhcaaGreatDoorSrc1J
import Derived.Deep.Slices
import Derived.Lib.SmallJoins
import Derived.Test.YtcgjflamgnjhcaaGreatDoorEnQJ
set_option linter.unusedVariables false
set_option linter.unusedSimpArgs false
set_option maxRecDepth 100000
set_option maxHeartbeats 8000000
namespace Go.Proofs.YtcgjflamgnjhcaaGreatDoor
open Go.ChangeShapes Go.WideShapes Go.ChangeAt Go.RowKit
def lit10 : ByteArray:=⟨#[115,101,108,101,99,116,32,99,111,117,110,116,40,42,41,32,102,114,111,109,32,101,118,101,110,116,115,32,119,105,110,100,111,119,32,49,48]⟩
def q10 : Qy:=⟨[⟨1,[]⟩],[],[],10,10,0,0⟩
theorem parse10 : parseQ lit10 = .ok q10:=by kernel_rfl
theorem chk10 : chkQ q10 = 0:=by decide
def e3 : Ev:=⟨3,0,0,0,0,0,0⟩
def e12 : Ev:=⟨12,0,0,0,0,0,0⟩
theorem adds_nil {ks : List Int} {tb0 tb : List Pn} {rows0 rows : List Rw} {l : List Ct} (h : AddsE ks tb0 rows0 l tb rows) (hl : l = []) : tb = tb0 ∧ rows = rows0:=by
 cases h with
 | nil => exact ⟨rfl,rfl⟩
 | snoc h a => simp at hl
theorem Wz6 {ks : List Int} {tb0 tb : List Pn} {rows0 rows : List Rw} {l : List Ct} {c : Ct} (h : AddsE ks tb0 rows0 l tb rows) (hl : l = [c]) : AddE ks tb0 rows0 c tb rows:=by
 cases h with
 | nil => simp at hl
 | @snoc cs tb1 tb' rows1 rows' c' h a =>
  have h1:=congrArg List.reverse hl;simp at h1;obtain ⟨rfl,h2⟩:=h1;obtain ⟨rfl,rfl⟩:=adds_nil h h2;exact a
theorem take3 : takeC q10 e3 (uptoG q10 (-1)) (decide ((0 : Int) ≤ -1)) = [⟨0,(0,0),[(0,0)]⟩]:=by kernel_rfl
theorem take12 : takeC q10 e12 (uptoG q10 3) (decide ((0 : Int) ≤ 3)) = [⟨10,(0,0),[(0,0)]⟩]:=by kernel_rfl
theorem works_one (tb : List Pn) (rows : List Rw) (late : Nat) (h : StepE q10 [-1] 0 e3 [] [] 0 tb rows late) : ∃ av,tb = [⟨0,0,0,false,addL ([1].map newA) [(0,0)],av⟩] ∧ rows = []:=by
 obtain ⟨tb1,rows1,ha,-,hs⟩:=h;have h1:=Wz6 ha take3
 rcases h1 with ⟨j,hj,-⟩ | ⟨-,⟨i,av,hi,e⟩,-,er⟩
 ·simp at hj
 ·have hi0 : i = 0:=by simpa using hi
  subst hi0;have e1 : tb1 = [⟨0,0,0,false,addL ([1].map newA) [(0,0)],av⟩]:=e;subst e1;subst er
  rcases hs with ⟨hm,-,-⟩ | ⟨-,e2,e3⟩
  ·exact absurd hm (by decide)
  ·exact ⟨av,e2,e3⟩
theorem works_two (av : Value) (tb : List Pn) (rows : List Rw) (late late' : Nat) (h : StepE q10 [3] 0 e12 [⟨0,0,0,false,addL ([1].map newA) [(0,0)],av⟩] [] late tb rows late') : rows = [⟨false,(0,0,0,[(1,1)])⟩]:=by
 obtain ⟨tb1,rows1,ha,-,hs⟩:=h;have h1:=Wz6 ha take12
 rcases h1 with ⟨j,hj,a9,⟨h2,-⟩,-⟩ | ⟨-,⟨i,a9,hi,e⟩,-,er⟩
 ·have hj0 : j = 0:=by simpa using hj
  subst hj0;have h3 : (0 : Int) = 10:=h2;omega
 ·subst er;have hi1 : i = 0 ∨ i = 1:=by simp at hi;omega
  rcases hi1 with rfl | rfl
  ·rcases hs with ⟨hm,-,-⟩ | ⟨-,-,e3⟩
   ·exact absurd hm (by decide)
   ·rw [e] at e3;exact e3
  ·rcases hs with ⟨hm,-,-⟩ | ⟨-,-,e3⟩
   ·exact absurd hm (by decide)
   ·rw [e] at e3;exact e3
theorem one_row {rs : List (Rw × Value)} {r : Rw} (h : rs.map Prod.fst = [r]) : ∃ v,rs = [(r,v)]:=by
 cases rs with
 | nil => simp at h
 | cons x l =>
  simp only [List.map_cons,List.cons.injEq,List.map_eq_nil_iff] at h;obtain ⟨rfl,rfl⟩:=h;exact ⟨x.2,rfl⟩
theorem works_any (w : World) (ht : TabQ w) : Calls Tryz.prog 24 #[] w fun e w' => e = .returned (.bool true) ∧ Below w.heap.size w w':=by
 have PA:=zz4 lit10 w ht;unfold ParseR at PA;rw [parse10] at PA
 simp only at PA
 unfold lit10 at PA;have HC:=hidE chk10;have HW1:=hidE works_one;have HW2:=hidE works_two;have hz : q10.size = 10:=rfl;obtain ⟨q,hq⟩ : ∃ q,q10 = q:=⟨_,rfl⟩;rw [hq] at PA HC HW1 HW2;clear hz hq;have PAH:=hidE PA;clear PA ht
 go_enter Tryz.func24,Tryz.ntmps24
 go_wp2_with fail;refine PAH.out.mono ?_;rintro r w1 ⟨hb,va,vw,vb,ps,rfl,hqo⟩;have hqg:=qyO_G hqo;obtain ⟨ao,cap,rfl⟩:=gz0 hqg.ag.row;obtain ⟨a2,c2,rfl⟩:=gz0 hqg.wh;obtain ⟨a3,c3,rfl⟩:=gz0 hqg.by_;have B2:=hidE (hb.trans ((ez0 w1 (.cells #[Value.slice ao ps.length cap,Value.slice a2 q.wh.length c2,Value.slice a3 q.bys.length c3,Value.int .i64 q.size,Value.int .i64 q.slide,Value.int .i64 q.delay,Value.int .i64 q.late] 28)).mono hb.size));have NW:=hidE (Mz6 (P:=[[e3,e12]]) (Kz0 hqg (ez0 w1 (.cells #[Value.slice ao ps.length cap,Value.slice a2 q.wh.length c2,Value.slice a3 q.bys.length c3,Value.int .i64 q.size,Value.int .i64 q.slide,Value.int .i64 q.delay,Value.int .i64 q.late] 28))) HC.out (by decide) (by decide));have hlt : w.heap.size ≤ w1.heap.size:=hb.size;have lq:=(kz0 w1 [Value.slice ao ps.length cap,Value.slice a2 q.wh.length c2,Value.slice a3 q.bys.length c3,Value.int .i64 q.size,Value.int .i64 q.slide,Value.int .i64 q.delay,Value.int .i64 q.late] 28).lt;unfold qyV at NW ⊢;simp only [List.length_cons,List.length_nil] at NW;clear PAH hb hqo hqg;go_wp2_with fail;refine NW.out.mono ?_;rintro e w2 ⟨eb,rdv,ckv0,rfl,hE⟩;have ST1:=hidE (vz4 hE HC.out (by decide) (p:=0) (l:=[]) (l':=[e3,e12]) (x:=e3) rfl rfl rfl);unfold aggEv e3 at ST1;clear NW hE;go_wp2_with fail;refine ST1.out.mono ?_;rintro e w3 ⟨rfl,late1,tb1,rs1,ckv1,tv1,rv1,E1,S1⟩;obtain ⟨av1,rfl,h1⟩:=HW1.out _ _ _ S1;have hn1 : rs1 = []:=by simpa using h1
 subst hn1;have ST2:=hidE (vz4 E1 HC.out (by decide) (p:=0) (l:=[e3]) (l':=[e3,e12]) (x:=e12) rfl rfl rfl);unfold aggEv at ST2;have he12 : e12 = ⟨12,0,0,0,0,0,0⟩:=rfl;rw [he12] at ST2;clear ST1 E1 S1 h1;go_wp2_with fail;refine ST2.out.mono ?_;rintro e w4 ⟨rfl,late2,tb2,rs2,ckv2,tv2,rv2,E2,S2⟩;have h2:=HW2.out _ _ _ _ _ S2;obtain ⟨v2,rfl⟩:=one_row h2;obtain ⟨w0,b0,va',vw',vb',ps',V,cs,a1,-,-,-,-,-,-,a8,-⟩:=E2;have HBF:=hidE (B2.out.trans (a8.mono B2.out.size));have hbe:=a1.en.be;obtain ⟨rva,rvc,rfl⟩:=jz0 a1.en.ro;have e4 : w4.cell? ⟨eb,4,none⟩ = some (.slice rva 1 rvc):=hbe.c 4 (by simp);have lebx:=hbe.lt;obtain ⟨gr,cr,hsr,-,lgr⟩:=Lz4 a1.en.ro (by simp);cases hsr;have hv2:=(a1.en.rn _ (List.mem_singleton.2 rfl)).1
 simp only at hv2
 obtain ⟨av2,cv2,rfl⟩:=pz0 hv2;have y4 : w4.cell? ⟨gr,4,none⟩ = some (.slice av2 1 cv2):=a1.en.ro.cellAt 4 (by simp);obtain ⟨gv,ov,hav,hcv,p1,p2,lgv⟩:=Wz3 (qz1 hv2) 0 (by simp);cases hav;clear ST2 S2 h2 hbe a1 a8 HW1 HW2 B2;go_wp2_with fail;refine bodyPost_ret (v:=.bool true) (by simp [results,Tryz.results24,go_sem]) rfl ?_;exact ⟨rfl,HBF.out⟩
theorem few_any (pv tv : Value) (vs : List Value) (P : List (List Ev)) (T : List Int) (w : World) (hP : PtsR w pv vs P) (hpl : P.length ≤ maxLen) (hT : RowC w tv T) (htl : T.length ≤ maxLen) :
  Calls Tryz.prog 26 #[pv,tv] w fun e w' => e = .returned (.bool (decide (0 < P.length) && (lightM P && decide (T.length ≤ 200)))) ∧ Below w.heap.size w w':=by
 have LI:=hidE (light_any pv vs P w hP hpl);obtain ⟨lb,hlb⟩ : ∃ b,lightM P = b:=⟨_,rfl⟩;rw [hlb] at LI ⊢;obtain ⟨ap,cp,rfl⟩:=gz0 hP.row;obtain ⟨at_,ct,rfl⟩:=gz0 hT;clear hP hT;unfold maxLen at hpl htl
 by_cases h0 : 0 < P.length
 ·have d0 : decide ((0 : Int) < (P.length : Int)) = true:=decide_eq_true (by omega);rw [decide_eq_true h0,Bool.true_and]
  go_enter Tryz.func26,Tryz.ntmps26
  go_wp2_with fail;refine LI.out.mono ?_;rintro e w1 ⟨rfl,hb⟩;have HB:=hidE hb;clear hb LI;cases lb with
  | false =>
   go_wp2_with fail;refine bodyPost_ret (v:=.bool false) (by simp [results,Tryz.results26,go_sem]) rfl ?_;exact ⟨rfl,HB.out⟩
  | true =>
   have d2 : decide ((T.length : Int) ≤ 200) = decide (T.length ≤ 200):=by
    by_cases h : T.length ≤ 200
    ·rw [decide_eq_true h,decide_eq_true (by omega)]
    ·rw [decide_eq_false h,decide_eq_false (by omega)]
   go_wp2_with fail;refine bodyPost_ret (v:=.bool (decide (T.length ≤ 200))) (by simp [results,Tryz.results26,go_sem]) rfl ?_;exact ⟨rfl,HB.out⟩
 ·have d0 : decide ((0 : Int) < (P.length : Int)) = false:=decide_eq_false (by omega);rw [decide_eq_false h0,Bool.false_and];have h00 : P.length = 0:=by omega
  go_enter Tryz.func26,Tryz.ntmps26
  go_wp2_with fail;refine bodyPost_ret (v:=.bool false) (by simp [results,Tryz.results26,go_sem]) rfl ?_;exact ⟨rfl,Below.refl _ _⟩
theorem topLittle_enters (v : Value) (c0 : Value) (w : World) : Sem.run Tryz.prog (callFunc 37 #[v,c0]) w = .ok (.enter 37 #[v,c0]) w:=by kernel_rfl
theorem topLittle_walk (s : ByteArray) (pv tv : Value) (vs : List Value) (P : List (List Ev)) (T : List Int) (w : World) (ht : TabQ w) (hP : PtsR w pv vs P) (hpl : P.length ≤ maxLen) (hT : RowC w tv T) (htl : T.length ≤ maxLen) :
  Calls Tryz.prog 9 #[.string s,pv,tv] w fun e w' => e = .returned (.bool true) ∧ Below w.heap.size w w':=by
 have WK:=hidE (works_any w ht);obtain ⟨ap,cp,rfl⟩:=gz0 hP.row;obtain ⟨at_,ct,rfl⟩:=gz0 hT;have HT:=hidE ht;have HP:=hidE hP;have HTT:=hidE hT;clear ht hP hT
 go_enter Tryz.func9,Tryz.ntmps9
 go_wp2_with fail;refine WK.out.mono ?_;rintro e w1 ⟨rfl,hb1⟩;have B1:=hidE hb1;have ASK:=asked_any s w1 (HT.out.below hb1);unfold AskR at ASK;have ASKH:=hidE ASK;clear WK hb1 ASK HT;go_wp2_with fail;refine ASKH.out.mono ?_;rintro r w2 ⟨hb,hr⟩;have B2:=nxt B1 hb;clear ASKH B1 hb
 rcases hr with rfl | ⟨q,va,vw,vb,ps,hpq,rfl,hqo⟩
 ·unfold qzV;have B3:=hidE (B2.out.trans ((ez0 w2 (.cells #[.slice none 0 0,.slice none 0 0,.slice none 0 0,.int .i64 0,.int .i64 0,.int .i64 0,.int .i64 0] 28)).mono B2.out.size));go_wp2_with fail;refine bodyPost_ret (v:=.bool true) (by simp [results,Tryz.results9,go_sem]) rfl ?_;exact ⟨rfl,B3.out⟩
 ·have hqg:=qyO_G hqo;obtain ⟨ao,cap,rfl⟩:=gz0 hqg.ag.row;obtain ⟨a2,c2,rfl⟩:=gz0 hqg.wh;obtain ⟨a3,c3,rfl⟩:=gz0 hqg.by_;have hba:=ez0 w2 (.cells #[Value.slice ao ps.length cap,Value.slice a2 q.wh.length c2,Value.slice a3 q.bys.length c3,Value.int .i64 q.size,Value.int .i64 q.slide,Value.int .i64 q.delay,Value.int .i64 q.late] 28);have B3:=hidE (B2.out.trans (hba.mono B2.out.size));have G3:=hidE (Kz0 hqg hba);have BQ3:=hidE (kz0 w2 [Value.slice ao ps.length cap,Value.slice a2 q.wh.length c2,Value.slice a3 q.bys.length c3,Value.int .i64 q.size,Value.int .i64 q.slide,Value.int .i64 q.delay,Value.int .i64 q.late] 28);have HP3:=hidE (Ez3 HP.out B3.out);have HT3:=hidE (lz0 HTT.out B3.out);have FE:=hidE (few_any _ _ vs P T _ HP3.out hpl HT3.out htl);have HC:=hidE (chk_of_parse hpq);have hlt:=BQ3.out.lt;unfold qyV;clear hqo hqg hba HP HTT hpq;go_wp2_with fail;refine FE.out.mono ?_;rintro e w3 ⟨rfl,hb3⟩;have B4:=hidE (B3.out.trans (hb3.mono B3.out.size));obtain ⟨few,hfew⟩ : ∃ b,(decide (0 < P.length) && (lightM P && decide (T.length ≤ 200))) = b:=⟨_,rfl⟩;rw [hfew];cases few with
  | false =>
   clear FE hb3;go_wp2_with fail;refine bodyPost_ret (v:=.bool true) (by simp [results,Tryz.results9,go_sem]) rfl ?_;exact ⟨rfl,B4.out⟩
  | true =>
   have h09 : 0 < P.length:=by
    cases h : decide (0 < P.length) with
    | true => exact of_decide_eq_true h
    | false => rw [h] at hfew;cases hfew
   have hl9 : lightM P = true:=by
    rw [decide_eq_true h09,Bool.true_and] at hfew;exact (Bool.and_eq_true_iff.1 hfew).1
   have ht9 : T.length ≤ 200:=by
    rw [decide_eq_true h09,Bool.true_and] at hfew;exact of_decide_eq_true (Bool.and_eq_true_iff.1 hfew).2
   have BQ3:=hidE (dz0 BQ3.out hb3 BQ3.out.lt);have RUN:=run1_any 37 (.pointer (some ⟨w2.heap.size,0,none⟩)) _ _ _ _ _ q ps vs P T w3 (Kz0 G3.out hb3) HC.out (Ez3 HP3.out hb3) h09 hl9 (lz0 HT3.out hb3) (by omega) (fun v w => topLittle_enters v _ w) (fun eb M late tb rs rdv ckv tv rv w h => little_any h HC.out hl9 h09 w2.heap.size _ _ _ BQ3.out);unfold qyV at RUN;have RUNH:=hidE RUN;have q0 : w3.cell? ⟨w2.heap.size,0,none⟩ = some (Value.slice ao ps.length cap):=BQ3.out.c 0 (by simp);have q1 : w3.cell? ⟨w2.heap.size,1,none⟩ = some (Value.slice a2 q.wh.length c2):=BQ3.out.c 1 (by simp);have q2 : w3.cell? ⟨w2.heap.size,2,none⟩ = some (Value.slice a3 q.bys.length c3):=BQ3.out.c 2 (by simp);have q3 : w3.cell? ⟨w2.heap.size,3,none⟩ = some (Value.int .i64 q.size):=BQ3.out.c 3 (by simp);have q4 : w3.cell? ⟨w2.heap.size,4,none⟩ = some (Value.int .i64 q.slide):=BQ3.out.c 4 (by simp);have q5 : w3.cell? ⟨w2.heap.size,5,none⟩ = some (Value.int .i64 q.delay):=BQ3.out.c 5 (by simp);have q6 : w3.cell? ⟨w2.heap.size,6,none⟩ = some (Value.int .i64 q.late):=BQ3.out.c 6 (by simp);have lq3:=BQ3.out.lt;clear RUN FE hb3 HP3 HT3 G3 hfew;go_wp2_with fail;refine RUNH.out.mono ?_;rintro e w4 ⟨eb,late,tb,rs,rdv,ckv,tv,rv,rfl,hE⟩;have B5 : Hid (Below w.heap.size w w4):=by
    obtain ⟨w0,b0,va,vw,vb,ps,V,cs,-,-,-,-,-,-,-,a8,-⟩:=hE;exact B4.out.trans (a8.mono B4.out.size)
   clear hE RUNH;go_wp2_with fail;refine bodyPost_ret (v:=.bool true) (by simp [results,Tryz.results9,go_sem]) rfl ?_;exact ⟨rfl,B5.out⟩
theorem list4 {α : Type} {cs : List α} (h : cs.length = 4) : ∃ a b c d,cs = [a,b,c,d]:=by
 match cs,h with
 | [a,b,c,d],_ => exact ⟨a,b,c,d,rfl⟩
theorem list7 {α : Type} {cs : List α} (h : cs.length = 7) : ∃ a b c d e f g,cs = [a,b,c,d,e,f,g]:=by
 match cs,h with
 | [a,b,c,d,e,f,g],_ => exact ⟨a,b,c,d,e,f,g,rfl⟩
end Go.Proofs.YtcgjflamgnjhcaaGreatDoor
namespace Go.Proofs.YtcgjflamgnjhcaaGreatDoor
open Go.ChangeShapes Go.WideShapes Go.ChangeAt Go.RowKit
open Go.Joins Go.Deep
theorem cellsEvent : Tryz.prog.cellsOf 43 = 7:=by kernel_rfl
theorem open_ev {H : Type} {enc : TypeId × Value → H} {W : World} {sp : Nat → Bool} {hd : Bool} {fuel : Nat} {cs : List Value} {x : DataW H × List MemPlace}
  (h : DataW.trod enc Tryz.prog W 0 sp hd fuel 43 cs = some x) : ∃ e : Ev,cs = cellsE e:=by
 obtain ⟨xs,k,-,-,hlen,hxl,hf⟩:=DataW.trod_struct Tryz.underlying43 h;rw [cellsEvent] at hlen;obtain ⟨c0,c1,c2,c3,c4,c5,c6,rfl⟩:=list7 hlen;obtain ⟨y0,y1,y2,y3,rfl⟩:=list4 hxl;have g0 : DataW.trod enc Tryz.prog W 0 sp hd k 3 (List.take (Tryz.prog.cellsOf 3) (List.drop 0 [c0,c1,c2,c3,c4,c5,c6])) = some y0:=hf 0 _ rfl;have g1 : DataW.trod enc Tryz.prog W 0 sp hd k 41 (List.take (Tryz.prog.cellsOf 41) (List.drop 1 [c0,c1,c2,c3,c4,c5,c6])) = some y1:=hf 1 _ rfl;have g2 : DataW.trod enc Tryz.prog W 0 sp hd k 41 (List.take (Tryz.prog.cellsOf 41) (List.drop 3 [c0,c1,c2,c3,c4,c5,c6])) = some y2:=hf 2 _ rfl;have g3 : DataW.trod enc Tryz.prog W 0 sp hd k 41 (List.take (Tryz.prog.cellsOf 41) (List.drop 5 [c0,c1,c2,c3,c4,c5,c6])) = some y3:=hf 3 _ rfl;rw [cellsInt] at g0;rw [cellsValue] at g1 g2 g3;obtain ⟨n0,e0⟩:=Xz5 g0;obtain ⟨m1,n1,e1,e2⟩:=gz5 g1;obtain ⟨m2,n2,e3,e4⟩:=gz5 g2;obtain ⟨m3,n3,e5,e6⟩:=gz5 g3;exact ⟨⟨n0,m1,n1,m2,n2,m3,n3⟩,by rw [e0,e1,e2,e3,e4,e5,e6];rfl⟩
section
variable {α : Type} {S : Nat} {f : α → List Value}
theorem tz4 {H : Type} {enc : TypeId × Value → H} {W : World} {v : Value} {x : DataW H × List MemPlace} {ts te : TypeId} {sp : Nat → Bool} {hd : Bool} {fuel : Nat} {Pz : α → Prop} (hf : ∀ a,(f a).length = S) (hS : 0 < S)
  (hu : Tryz.prog.underlying ts = some (.slice te)) (hc : Tryz.prog.cellsOf te = S) (dflt : α)
  (open1 : ∀ {fuel : Nat} {cs : List Value} {x : DataW H × List MemPlace},DataW.trod enc Tryz.prog W 0 sp hd fuel te cs = some x → ∃ n : α,cs = f n ∧ Pz n)
  (h : DataW.trod enc Tryz.prog W 0 sp hd fuel ts [v] = some x) :
  ∃ l : List α,RowG W v S l.length (rowOf f l) ∧ l.length ≤ maxLen ∧ ∀ a ∈ l,Pz a:=by
 have nilcase : ∀ (ao : Option Addr) (cp : Nat),∃ l : List α,RowG W (.slice ao 0 cp) S l.length (rowOf f l) ∧ l.length ≤ maxLen ∧ ∀ a ∈ l,Pz a:=fun ao cp =>
  ⟨[],⟨by simp [rowOf],.inl ⟨⟨_,_,rfl⟩,rfl⟩⟩,Nat.zero_le _,fun a ha => by simp at ha⟩
 rcases open_slice hu h with ⟨hc',-⟩ | ⟨a,ln,cp,m,n,D,Pl,hc',-,hl,hm,hmm,-,hx⟩
 ·simp only [List.cons.injEq,and_true] at hc';subst hc';exact nilcase _ _
 ·simp only [List.cons.injEq,and_true] at hc';subst hc';have hlm : ln ≤ m:=by rw [hmm];split <;> omega
  rw [hc] at hx;have each : ∀ i,i < ln → ∃ nd : α,(∀ j,j < S → W.cell? (a.add (i * S + j)) = (f nd)[j]?) ∧ Pz nd:=by
   intro i hi;obtain ⟨cs',h1,h2⟩:=hx i (by omega);obtain ⟨nd,rfl,hp⟩:=open1 h2;obtain ⟨-,hlen,hcell⟩:=World.cells?_some h1;refine ⟨nd,fun j hj => ?_,hp⟩
   have:=hcell j hj
   rw [← this,add_add]
  by_cases h0 : ln = 0
  ·subst h0;exact nilcase _ _
  ·obtain ⟨g,off,spot⟩:=a;have hspot : spot = none:=by
    obtain ⟨nd,hnd,-⟩:=each 0 (by omega);have h9:=hnd 0 hS;have hlt : 0 < (f nd).length:=by rw [hf];exact hS
    rw [List.getElem?_eq_getElem hlt] at h9;exact (by simpa [Addr.add] using World.cell?_spot h9)
   subst hspot;have each2 : ∀ i,∃ nd : α,i < ln → (∀ j,j < S → W.cell? ⟨g,off + (i * S + j),none⟩ = (f nd)[j]?) ∧ Pz nd:=by
    intro i
    by_cases hi : i < ln
    ·obtain ⟨nd,hnd,hp⟩:=each i hi;exact ⟨nd,fun _ => ⟨fun j hj => by rw [← hnd j hj,add_plain],hp⟩⟩
    ·exact ⟨dflt,fun h => absurd h hi⟩
   obtain ⟨F,hF⟩:=Classical.axiomOfChoice each2;have hg : g < W.heap.size:=by
    obtain ⟨cs',h1,-⟩:=hx 0 (by omega)
    have:=World.cells?_block h1 (by omega)
    simpa [Addr.add] using this
   have hlen : ((List.range ln).map F).length = ln:=by simp
   refine ⟨(List.range ln).map F,⟨Rz0 hf _,.inr ⟨g,off,cp,by rw [hlen],by rw [hlen];omega,by omega,hg,fun j hj => ?_⟩⟩,by rw [hlen];omega,fun a ha => ?_⟩
   ·rw [hlen] at hj;have hi : j / S < ln:=(Nat.div_lt_iff_lt_mul hS).2 hj;have hr : j % S < S:=Nat.mod_lt _ hS;have e : j / S * S + j % S = j:=by rw [Nat.mul_comm];exact Nat.div_add_mod j S
    have h1:=(hF (j / S) hi).1 (j % S) hr;rw [e] at h1;rw [h1,← Az1 hf ((List.range ln).map F) (j / S) (j % S) (F (j / S)) (by simp [hi]) hr,e]
   ·obtain ⟨i,hi,rfl⟩:=List.mem_map.1 ha;exact (hF i (by simpa using hi)).2
end
end Go.Proofs.YtcgjflamgnjhcaaGreatDoor
namespace Go.Proofs.YtcgjflamgnjhcaaGreatDoor
open Go.ChangeShapes Go.WideShapes Go.ChangeAt Go.RowKit Go.Joins Go.Deep
theorem cellsEvents1 : Tryz.prog.cellsOf 50 = 1:=by kernel_rfl
def cellsPt (p : List Ev × Value) : List Value:=[p.2]
theorem open_eventsT {H : Type} {enc : TypeId × Value → H} {W : World} {sp : Nat → Bool} {hd : Bool} {fuel : Nat} {v : Value} {x : DataW H × List MemPlace}
  (h : DataW.trod enc Tryz.prog W 0 sp hd fuel 50 [v] = some x) : ∃ l : List Ev,RowG W v 7 l.length (rowOf cellsE l):=by
 obtain ⟨l,hr,-,-⟩:=tz4 (f:=cellsE) (S:=7) (Pz:=fun _ => True) Az3 (by decide) Tryz.underlying50 cellsEvent ⟨0,0,0,0,0,0,0⟩ (fun h => by
  obtain ⟨n,e⟩:=open_ev h;exact ⟨n,e,trivial⟩) h
 exact ⟨l,hr⟩
theorem open_parts {H : Type} {enc : TypeId × Value → H} {W : World} {sp : Nat → Bool} {hd : Bool} {fuel : Nat} {v : Value} {x : DataW H × List MemPlace}
  (h : DataW.trod enc Tryz.prog W 0 sp hd fuel 49 [v] = some x) : ∃ (vs : List Value) (M : List (List Ev)),PtsR W v vs M ∧ M.length ≤ maxLen:=by
 obtain ⟨ps,hr,hl,hp⟩:=tz4 (f:=cellsPt) (S:=1) (Pz:=fun p => RowG W p.2 7 p.1.length (rowOf cellsE p.1)) (fun _ => rfl) (by decide) Tryz.underlying49 cellsEvents1 ([],.slice none 0 0) (fun {fuel cs x} h => by
  cases fuel with
  | zero => simp [DataW.trod] at h
  | succ k =>
   have hlen : ∃ c,cs = [c]:=by
    rcases open_slice Tryz.underlying50 h with ⟨hc,-⟩ | ⟨a,ln,cp,m,n,D,Pl,hc,-⟩
    ·exact ⟨_,hc⟩
    ·exact ⟨_,hc⟩
   obtain ⟨c,rfl⟩:=hlen;obtain ⟨l,hr⟩:=open_eventsT h;exact ⟨(l,c),rfl,hr⟩) h
 refine ⟨ps.map Prod.snd,ps.map Prod.fst,⟨?_,by simp,fun i v l h1 h2 => ?_⟩,by simpa using hl⟩
 ·have e : rowOf cellsPt ps = ps.map Prod.snd:=by
   clear hr hl hp
   induction ps with
   | nil => rfl
   | cons a l ih => rw [Hz1,ih];rfl
  rw [e] at hr
  simpa using hr
 ·rw [List.getElem?_map] at h1 h2;cases hi : ps[i]? with
  | none => rw [hi] at h1;simp at h1
  | some p =>
   rw [hi] at h1 h2;simp only [Option.map_some,Option.some.injEq] at h1 h2;subst h1 h2;exact hp p (List.mem_of_getElem? hi)
end Go.Proofs.YtcgjflamgnjhcaaGreatDoor

/- Own texts in one. Conditions: as named in each. -/
import Derived.Test.YtcgjflamgnjhcaaGreatDoorBtBJ
set_option linter.unusedVariables false
set_option linter.unusedSimpArgs false
set_option maxRecDepth 100000
set_option maxHeartbeats 8000000
namespace Go.Proofs.YtcgjflamgnjhcaaGreatDoor
open Go.ChangeShapes Go.WideShapes Go.ChangeAt Go.RowKit
structure PutE (R:List Ct→Option Nat→World→Prop) (G:Int→Prop) (eb:Nat) (n:Nat) (p:Value):Prop where
 below:∀ cs rb w w',R cs rb w→Below w.heap.size w w'→R cs rb w'
 at_:∀ cs rb w,R cs rb w→∀ k,(k=eb∨rb=some k)→k < w.heap.size
 put:∀ cs rb (c:Ct) (vv:Value) w,R cs rb w→cs.length < 9→-1000≤c.st∧c.st≤9999→G c.st→c.vs.length=n→bT w vv 2 c.vs.length (cB c.vs)→Calls Tryz.prog 47 #[p,.int .i64 c.st,.agg #[.int .i64 c.key.1,.int .i64 c.key.2],vv] w fun e w'=>e=.returned (.tuple #[])∧∃ rb',R (cs++[c]) rb' w'∧(rb'=rb∨∃ k,rb'=some k∧w.heap.size≤k)∧KeptB w w' (fun k=>k=eb∨rb=some k)
theorem qh {a b c:World} {eb:Nat} {rb rb1:Option Nat} (h:KeptB a b (fun k=>k=eb∨rb=some k)) (k:KeptB b c (fun k=>k=eb∨rb1=some k)) (hr:rb1=rb∨∃ j,rb1=some j∧a.heap.size≤j):KeptB a c (fun k=>k=eb∨rb=some k) :=
 ⟨h.b0.trans k.b0,fun i hi hn=>(k.block i (Nat.lt_of_lt_of_le hi h.b0.size) (fun e=>by
  rcases e with e | e
  ·exact hn (.inl e)
  ·rcases hr with e9 | ⟨j,e9,hj⟩
   ·exact hn (.inr (by rw [← e9];exact e))
   ·rw [e9] at e;cases e;omega)).trans (h.block i hi hn)⟩
theorem rbE {x y z:Nat} {rb rb1 rb2:Option Nat} (h1:rb1=rb∨∃ j,rb1=some j∧x≤j) (h2:rb2=rb1∨∃ j,rb2=some j∧y≤j) (hxy:x≤y):rb2=rb∨∃ j,rb2=some j∧x≤j:=by
 rcases h2 with e | ⟨j,e,hj⟩
 ·rw [e];exact h1
 ·exact .inr ⟨j,e,by omega⟩
theorem etakeE_any (R:List Ct→Option Nat→World→Prop) (G:Int→Prop) (eb:Nat) (rb:Option Nat) (va vw vb:Value) (q:Qy) (ps:List (AgQ×Value)) (x:Ev) (upto:Int) (known:Bool) (p:Value) (cs:List Ct) (W:World) (h:QyG W va vw vb q ps) (h4:ps.length≤4) (hn:QyN q) (hx:∀ p∈evX x,okV p)
  (hW:nY x.t q.size q.slide) (hl0:0≤q.late) (hl1:q.late≤1000) (hP:PutE R G eb ps.length p) (hG:∀ st,fu q upto known st=false→G st) (hR:R cs rb W) (hcs:cs.length≤4) :
  Calls Tryz.prog 46 #[qyV va vw vb q,ej x,.int .i64 upto,.bool known,.func (.func 47) #[p] #[]] W fun e w'=>e=.returned (.int .i64 (takeN q x upto known:Nat))∧∃ rb',R (cs++takeC q x upto known) rb' w'∧(rb'=rb∨∃ k,rb'=some k∧W.heap.size≤k)∧KeptB W w' (fun k=>k=eb∨rb=some k):=by
 have hbad:=hP.at_ cs rb W hR;have HG9:=aa hG;clear hG;unfold qyV;obtain ⟨ao,cap,rfl⟩:=aq h.ag.row;obtain ⟨a2,c2,rfl⟩:=aq h.wh;obtain ⟨a3,c3,rfl⟩:=aq h.by_;have ba:=lQ W (.cells #[.slice ao ps.length cap,.slice a2 q.wh.length c2,.slice a3 q.bys.length c3,.int .i64 q.size,.int .i64 q.slide,.int .i64 q.delay,.int .i64 q.late] 28) (.cells #[.int .i64 x.t,.int .i64 x.k1,.int .i64 x.k2,.int .i64 x.a1,.int .i64 x.a2,.int .i64 x.b1,.int .i64 x.b2] 43);have BQ:=aa (ai (az W [.slice ao ps.length cap,.slice a2 q.wh.length c2,.slice a3 q.bys.length c3,.int .i64 q.size,.int .i64 q.slide,.int .i64 q.delay,.int .i64 q.late] 28) (aj (W.alloc (.cells #[.slice ao ps.length cap,.slice a2 q.wh.length c2,.slice a3 q.bys.length c3,.int .i64 q.size,.int .i64 q.slide,.int .i64 q.delay,.int .i64 q.late] 28)) (.cells #[.int .i64 x.t,.int .i64 x.k1,.int .i64 x.k2,.int .i64 x.a1,.int .i64 x.a2,.int .i64 x.b1,.int .i64 x.b2] 43)) (by simp));have BX:=aa (az (W.alloc (.cells #[.slice ao ps.length cap,.slice a2 q.wh.length c2,.slice a3 q.bys.length c3,.int .i64 q.size,.int .i64 q.slide,.int .i64 q.delay,.int .i64 q.late] 28)) [.int .i64 x.t,.int .i64 x.k1,.int .i64 x.k2,.int .i64 x.a1,.int .i64 x.a2,.int .i64 x.b1,.int .i64 x.b2] 43);rw [show (W.alloc (.cells #[.slice ao ps.length cap,.slice a2 q.wh.length c2,.slice a3 q.bys.length c3,.int .i64 q.size,.int .i64 q.slide,.int .i64 q.delay,.int .i64 q.late] 28)).heap.size=W.heap.size+1 from by simp] at BX;have AK:=aa (asked_q (.slice ao ps.length cap) (.slice a2 q.wh.length c2) (.slice a3 q.bys.length c3) q ps x _ (b7 h ba) hn hx);have HG:=aa (b7 h ba);have HQA:=aa h.qa;have HBA:=aa ba;have HR:=aa (hP.below cs rb _ _ hR ba);have HP:=aa hP;have HN:=aa hn;have HX:=aa hx;have HW:=aa hW;obtain ⟨ws,hws⟩:∃ ws,nW x.t q.size q.slide=ws:=⟨_,rfl⟩;have HST:Hid (∀ w,Calls Tryz.prog 89 #[.int .i64 x.t,.int .i64 q.size,.int .i64 q.slide] w fun e w'=>∃ u,e=.returned u∧w'.ownsRow w.heap.size 3 1 u ws.length (ws.map (Value.int .i64))∧Below w.heap.size w w'):=fun w=>by
  rw [← hws];exact starts_any x.t q.size q.slide w hW
 have HIN:Hid (∀ st∈ws,-1000≤st∧st≤9999):=by
  rw [← hws];exact oX hW
 have HLEN:ws.length≤4:=by
  rw [← hws];exact mA hW
 have HT:Hid (∀ b,askQ q x=b→takeN q x upto known=(if b then gI q upto known ws else 0)∧takeC q x upto known=(if b then ko q x upto known ws else [])):=fun b hb=>by
  unfold takeN takeC;rw [hb,hws];exact ⟨rfl,rfl⟩
 generalize askQ q x=b at *;generalize takeN q x upto known=N at *;generalize takeC q x upto known=C at *;unfold qyV ej at AK;unfold ej;have HBAD:=aa hbad;obtain ⟨k1,k2,hk⟩:∃ k1 k2,qw q x=(k1,k2):=⟨_,_,rfl⟩;have HK:=aa hk;clear h hn hx hW hP hR ba hbad hk hws;cases b with
 | false =>
  obtain ⟨e1,e2⟩:=HT.out false rfl;rw [if_neg (by decide)] at e1 e2;subst e1 e2
  go_enter Tryz.func46,Tryz.ntmps46
  go_wp2_with fail;refine AK.out.mono ?_;rintro e w1 ⟨rfl,hb⟩;have HR1:=HP.out.below _ _ _ _ HR.out hb;have HB1:=nxt HBA hb;clear hb HR AK HG;go_wp2_with fail
  go_ret
  exact ⟨rfl,rb,by simpa using HR1,.inl rfl,ae HB1.out⟩
 | true =>
  obtain ⟨e1,e2⟩:=HT.out true rfl;rw [if_pos rfl] at e1 e2;subst e1 e2;clear HT;have hqb:W.heap.size < ((W.alloc (.cells #[.slice ao ps.length cap,.slice a2 q.wh.length c2,.slice a3 q.bys.length c3,.int .i64 q.size,.int .i64 q.slide,.int .i64 q.delay,.int .i64 q.late] 28)).alloc (.cells #[.int .i64 x.t,.int .i64 x.k1,.int .i64 x.k2,.int .i64 x.a1,.int .i64 x.a2,.int .i64 x.b1,.int .i64 x.b2] 43)).heap.size:=BQ.out.lt;have hxb:W.heap.size+1 < ((W.alloc (.cells #[.slice ao ps.length cap,.slice a2 q.wh.length c2,.slice a3 q.bys.length c3,.int .i64 q.size,.int .i64 q.slide,.int .i64 q.delay,.int .i64 q.late] 28)).alloc (.cells #[.int .i64 x.t,.int .i64 x.k1,.int .i64 x.k2,.int .i64 x.a1,.int .i64 x.a2,.int .i64 x.b1,.int .i64 x.b2] 43)).heap.size:=BX.out.lt
  go_enter Tryz.func46,Tryz.ntmps46
  go_wp2_with fail;refine AK.out.mono ?_;rintro e w1 ⟨rfl,hb⟩;have HR1:=aa (HP.out.below _ _ _ _ HR.out hb);have HB1:=nxt HBA hb;have BQ1:=aa (ai BQ.out hb BQ.out.lt);have BX1:=aa (ai BX.out hb BX.out.lt);have HG1:=aa (b7 HG.out hb);clear hb HR AK HG BQ BX;go_wp2_with fail;have PNH:=aa (@fg Tryz.prog Tryz.f46 (fun e w'=>e=.returned (.int .i64 (gI q upto known ws:Nat))∧∃ rb',R (cs++ko q x upto known ws) rb' w'∧(rb'=rb∨∃ k,rb'=some k∧W.heap.size≤k)∧KeptB W w' (fun k=>k=eb∨rb=some k)));refine take_r3 _ _ (by kernel_rfl) _ W.heap.size (W.heap.size+1) q ps x ao a2 a3 cap c2 c3 k1 k2 upto known (.func (.func 47) #[p] #[]) _ rfl rfl rfl rfl rfl rfl rfl BQ1.out BX1.out HG1.out h4 HN.out HX.out HK.out (bX PNH.out) ?_;rintro t' kb au cu w2 ht j2 j3 j4 j5 j6 j10 j11 j12 ⟨hbl,hgs,ho,hb⟩;have HR2:=aa (HP.out.below _ _ _ _ HR1.out hb);have HB2:=nxt HB1 hb;have hW1:=HB1.out.size;have BQ2:=aa (ai BQ1.out hb BQ1.out.lt);have BX2:=aa (ai BX1.out hb BX1.out.lt);have HBL:=aa hbl;have HO:=aa ho;have hkb:kb < w2.heap.size:=hbl.lt;have hsz2:W.heap.size+1 < w2.heap.size:=BX2.out.lt;obtain ⟨f,hf,hi⟩:=eD t' ht;have e2:=am (hi 2 (by decide)) j2;have e3:=am (hi 3 (by decide)) j3;have e4:=am (hi 4 (by decide)) j4;have e5:=am (hi 5 (by decide)) j5;have e6:=am (hi 6 (by decide)) j6;have e10:=am (hi 10 (by decide)) j10;have e11:=am (hi 11 (by decide)) j11;have e12:=am (hi 12 (by decide)) j12;rw [e2,e3,e4,e5,e6,e10,e11,e12] at hf;clear hi ht j2 j3 j4 j5 j6 j10 j11 j12 e2 e3 e4 e5 e6 e10 e11 e12 PNH HR1 HB1 BQ1 BX1 HG1 hbl ho;subst hf;refine aP ?_;rename_i K9 hK9;refine hK9 _ _ ?_;clear hK9;have x0:w2.cell? ⟨W.heap.size+1,0,none⟩=some (.int .i64 x.t):=BX2.out.c 0 (by simp);have q3:w2.cell? ⟨W.heap.size,3,none⟩=some (.int .i64 q.size):=BQ2.out.c 3 (by simp);have q4:w2.cell? ⟨W.heap.size,4,none⟩=some (.int .i64 q.slide):=BQ2.out.c 4 (by simp);go_wp2_with fail;refine (HST.out _).mono ?_;rintro e w3 ⟨u,rfl,hos,hb3⟩;obtain ⟨au3,cu3,rfl⟩:=ax hos;have HR3:=aa (HP.out.below _ _ _ _ HR2.out hb3);have HB3:=nxt HB2 hb3;have BQ3:=aa (ai BQ2.out hb3 BQ2.out.lt);have HBL3:=aa (ai HBL.out hb3 HBL.out.lt);have HO3:=aa (aC HO.out hb3 (Nat.le_refl _));have HS3:=aa hos;obtain ⟨-,-,hs1,hs2,hs3,-⟩:=HW.out;have HVL:Hid ((valsQ q x).length=ps.length):=by
   show _=_
   unfold valsQ;rw [List.length_map,← HQA.out,List.length_map]
  have hle1:W.heap.size≤w1.heap.size:=by omega
  have hle2:W.heap.size < w2.heap.size:=by omega
  clear HST hos hb3 HR2 HB2 BQ2 BX2 HBL HO x0 q3 q4 hb HX HN HW HQA HBA hqb hxb hsz2;go_wp2_with fail
  go_loopw [10,33] (fun l i wr=>∃ (m N:Nat) (C:List Ct) (rb1:Option Nat),m≤ws.length∧N≤m∧l=.int .i64 N∧i=.int .i64 m∧Hid (R C rb1 wr)∧Hid (C++ko q x upto known (ws.drop m)=cs++ko q x upto known ws)∧Hid (N+gI q upto known (ws.drop m)=gI q upto known ws)∧Hid (KeptB w3 wr (fun k=>k=eb∨rb=some k))∧Hid (rb1=rb∨∃ k,rb1=some k∧w3.heap.size≤k)∧C.length≤cs.length+m) (fun _ i _=>ws.length - (intOf i).toNat)
  case atStart=>exact ⟨0,0,cs,rb,Nat.zero_le _,Nat.le_refl _,rfl,rfl,HR3,by show _=_;simp,by show _=_;simp,ae (Below.refl _ _),.inl rfl,by omega⟩
  case round =>
   clear HR3;obtain ⟨m,N,C,rb1,hm,hN,rfl,rfl,HR,HC,HNN,KB,HRB,hcl⟩:=hrel
   by_cases hlt:m < ws.length
   ·have hso:=bg HS3.out KB.out (fun k e h9=>by have:=(aI HS3.out k e).1;have:=HBAD.out k h9;omega);obtain ⟨g,off,y,hao,hy,y0,z1,z2,z3⟩:=dj (aE hso) m hlt;subst hao;have hst:=HIN.out ws[m] (List.getElem_mem hlt);have hdr:ws.drop m=ws[m] :: ws.drop (m+1):=List.drop_eq_getElem_cons hlt;rw [hdr,putL_cons] at HC;rw [hdr,lateL_cons] at HNN;rw [List.getElem?_map,List.getElem?_eq_getElem hlt] at hy;simp only [Option.map_some,Option.some.injEq] at hy;subst hy;clear hdr hso;generalize ws[m]=st at *;obtain ⟨b1,b2⟩:=hst;unfold maxLen at z2;have BQr:=aa (aJ BQ3.out KB.out (fun h9=>by have:=HBAD.out _ h9;omega));have q3:wr.cell? ⟨W.heap.size,3,none⟩=some (.int .i64 q.size):=BQr.out.c 3 (by simp);have q6:wr.cell? ⟨W.heap.size,6,none⟩=some (.int .i64 q.late):=BQr.out.c 6 (by simp);have lq:=BQr.out.lt;have BLr:=aa (aJ HBL3.out KB.out (fun h9=>by have:=HBAD.out _ h9;omega));have g0:wr.cell? ⟨kb,0,none⟩=some (.int .i64 k1):=BLr.out.c 0 (by simp);have g1:wr.cell? ⟨kb,1,none⟩=some (.int .i64 k2):=BLr.out.c 1 (by simp);have lk:=BLr.out.lt;have PC:=aa (fun (hg:fu q upto known st=false)=>HP.out.put C rb1 ⟨st,(k1,k2),valsQ q x⟩ (.slice au (valsQ q x).length cu) wr HR.out (by omega) ⟨b1,b2⟩ (HG9.out st hg) HVL.out (aE (bg HO3.out KB.out (fun k e h9=>by have:=(aI HO3.out k e).1;have:=HBAD.out k h9;omega))));clear BQr BLr;have hn8:N≤4:=by omega
    have HLB:Hid (∀ b,fu q upto known st=b→C++((if b then [] else [⟨st,(k1,k2),valsQ q x⟩])++ko q x upto known (ws.drop (m+1)))=cs++ko q x upto known ws∧((if b then 1 else 0)+gI q upto known (ws.drop (m+1))+N=gI q upto known ws)):=fun b hb=>by
     have e1:=HC.out;have e2:=HNN.out;rw [hb,HK.out] at e1;rw [hb] at e2;exact ⟨e1,by omega⟩
    clear HC HNN;obtain ⟨b,hlb⟩:∃ b,fu q upto known st=b:=⟨_,rfl⟩;obtain ⟨e1,e2⟩:=HLB.out b hlb;clear HLB;have LATE:b=true→∀ l,l=Value.int .i64 ((N+1:Nat):Int)→True:=fun _ _ _=>trivial
    clear LATE;cases known with
    | false =>
     have hb0:b=false:=by rw [← hlb];rfl
     subst hb0;rw [if_neg (by decide)] at e1 e2;have E1:=aa e1;have E2:=aa e2;have HL0:=aa hlb;clear e1 e2 hlb;go_wp2_with fail;refine (PC.out HL0.out).mono ?_;rintro e w4 ⟨rfl,rb2,hr4,hrb4,hk4⟩;have HR4:=aa hr4;have KB4:=aa (qh KB.out hk4 HRB.out);have HRB4:=aa (rbE (z:=0) HRB.out hrb4 KB.out.b0.size);clear hr4 hk4 hrb4 PC;go_wp2_with fail;go_roundw
     case rel=>exact ⟨m+1,N,C++[⟨st,(k1,k2),valsQ q x⟩],rb2,by omega,by omega,rfl,by go_num,HR4,by show _=_;simpa using E1.out,by have:=E2.out;show _=_;omega,KB4,HRB4,by simp;omega⟩
     case measure=>simp [intOf];omega
    | true =>
     by_cases hd:st+q.size+q.late≤upto
     ·have hb0:b=true:=by rw [← hlb];simp [fu,hd]
      subst hb0;rw [if_pos rfl] at e1 e2;have E1:=aa e1;have E2:=aa e2;clear e1 e2 hlb PC;have dd:decide (st+q.size+q.late≤upto)=true:=by simp [hd]
      go_wp2_with fail;go_roundw
      case rel=>exact ⟨m+1,N+1,C,rb1,by omega,by omega,by go_num,by go_num,HR,by show _=_;simpa using E1.out,by have:=E2.out;show _=_;omega,KB,HRB,by omega⟩
      case measure=>simp [intOf];omega
     ·have hb0:b=false:=by rw [← hlb];simp [fu,hd]
      subst hb0;have dd:decide (st+q.size+q.late≤upto)=false:=by simp [hd]
      rw [if_neg (by decide)] at e1 e2;have E1:=aa e1;have E2:=aa e2;have HL0:=aa hlb;clear e1 e2 hlb;go_wp2_with fail;refine (PC.out HL0.out).mono ?_;rintro e w4 ⟨rfl,rb2,hr4,hrb4,hk4⟩;have HR4:=aa hr4;have KB4:=aa (qh KB.out hk4 HRB.out);have HRB4:=aa (rbE (z:=0) HRB.out hrb4 KB.out.b0.size);clear hr4 hk4 hrb4 PC;go_wp2_with fail;go_roundw
      case rel=>exact ⟨m+1,N,C++[⟨st,(k1,k2),valsQ q x⟩],rb2,by omega,by omega,rfl,by go_num,HR4,by show _=_;simpa using E1.out,by have:=E2.out;show _=_;omega,KB4,HRB4,by simp;omega⟩
      case measure=>simp [intOf];omega
   ·have hme:m=ws.length:=by omega
    subst hme;have E1:C=cs++ko q x upto known ws:=by
     have:=HC.out
     rw [List.drop_length] at this
     simpa [ko] using this
    have E2:N=gI q upto known ws:=by
     have:=HNN.out
     rw [List.drop_length] at this
     simpa [gI] using this
    subst E1 E2;go_wp2_with fail
    go_ret
    exact ⟨rfl,rb1,HR.out,by
     rcases HRB.out with e | ⟨k,e,hk⟩
     ·exact .inl e
     ·exact .inr ⟨k,e,by have:=HB3.out.size;omega⟩,af (ae HB3.out) KB.out⟩
theorem ku {k n:Int} (h:fldC k n=0):vok k n=true:=by
 unfold fldC at h
 by_cases h1:vok k n=false
 ·rw [if_pos h1] at h;omega
 ·simpa using h1
theorem lV {x:Ev} (h:evC x=0):(∀ p∈evX x,okV p)∧0≤x.t∧x.t≤9999:=by
 have h1:0≤x.t:=by
  unfold evC at h
  by_cases h1:x.t < 0
  ·rw [if_pos h1] at h;omega
  ·omega
 have h2:x.t≤9999:=by
  unfold evC at h;rw [if_neg (by omega)] at h
  by_cases h3:9999 < x.t
  ·rw [if_pos h3] at h;omega
  ·omega
 unfold evC at h;rw [if_neg (by omega),if_neg (by omega)] at h;have h3:fldC x.k1 x.k2=0:=by
  by_cases h3:fldC x.k1 x.k2=0
  ·exact h3
  ·rw [if_pos h3] at h;exact absurd h h3
 rw [if_neg (by simp [h3])] at h;have h4:fldC x.a1 x.a2=0:=by
  by_cases h4:fldC x.a1 x.a2=0
  ·exact h4
  ·rw [if_pos h4] at h;exact absurd h h4
 rw [if_neg (by simp [h4])] at h;refine ⟨fun p hp=>?_,h1,h2⟩;simp only [evX,evE,List.mem_cons,List.not_mem_nil,or_false] at hp
 rcases hp with rfl | rfl | rfl | rfl
 ·unfold okV pC numK numN vok;rw [if_pos (by omega),if_pos (by omega)]
  simp
  omega
 ·exact ku h3
 ·exact ku h4
 ·exact ku h
theorem lz {q:Qy} {x:Ev} (h:nY x.t q.size q.slide) (u:Int) (k:Bool):(takeC q x u k).length≤4∧takeN q x u k≤4:=by
 unfold takeC takeN
 have:=mA h
 have h1:=putL_len q x u k (nW x.t q.size q.slide);have h2:=lateL_len q u k (nW x.t q.size q.slide)
 split
 ·exact ⟨by omega,by omega⟩
 ·exact ⟨by simp,by simp⟩
structure QyS (q:Qy):Prop where
 s1:1≤q.slide
 s2:q.slide≤q.size
 s3:q.size≤1000
 s4:q.size≤4 * q.slide
 d0:0≤q.delay
 d1:q.delay≤1000
 l0:0≤q.late
 l1:q.late≤1000
structure Po where
 (st k n:Int)
 vs:List V2
 v:Value
def bM (p:Po):List Value:=[.int .i64 p.st,.int .i64 p.k,.int .i64 p.n,p.v]
theorem cE (p:Po):(bM p).length=4:=rfl
def fC (o:Po):Int×Int×Int×List V2:=(o.st,o.k,o.n,o.vs)
def fj (p:Pn):Int×Int×Int×List V2:=(p.st,p.k,p.n,p.ac.map acV)
theorem gR {α:Type} (lt:α→α→Prop) (hirr:∀ a,¬ lt a a) (has:∀ a b,lt a b→¬ lt b a):∀ (l m:List α),l.Pairwise lt→m.Pairwise lt→(∀ x,x∈l↔x∈m)→l=m
 | [],[],_,_,_=>rfl
 | [],b :: m,_,_,h=>absurd ((h b).2 List.mem_cons_self) (by simp)
 | a :: l,[],_,_,h=>absurd ((h a).1 List.mem_cons_self) (by simp)
 | a :: l,b :: m,hl,hm,h=>by
  obtain ⟨hl1,hl2⟩:=List.pairwise_cons.1 hl;obtain ⟨hm1,hm2⟩:=List.pairwise_cons.1 hm;have hab:a=b:=by
   rcases List.mem_cons.1 ((h a).1 List.mem_cons_self) with e | e
   ·exact e
   ·rcases List.mem_cons.1 ((h b).2 List.mem_cons_self) with e2 | e2
    ·exact e2.symm
    ·exact absurd (hm1 a e) (has _ _ (hl1 b e2))
  subst hab;rw [gR lt hirr has l m hl2 hm2 (fun x=>⟨fun hx=>?_,fun hx=>?_⟩)]
  ·rcases List.mem_cons.1 ((h x).1 (List.mem_cons_of_mem _ hx)) with e | e
   ·subst e;exact absurd (hl1 x hx) (hirr x)
   ·exact e
  ·rcases List.mem_cons.1 ((h x).2 (List.mem_cons_of_mem _ hx)) with e | e
   ·subst e;exact absurd (hm1 x hx) (hirr x)
   ·exact e
def ph (ks:List Int) (cs cs':List Ct):Prop:=∀ st k n,ix ks (ofK st k n cs)=ix ks (ofK st k n cs')∧(ofK st k n cs=[]↔ofK st k n cs'=[])
theorem acAdd_comm (a:Ac) (u v:V2):jI (jI a u) v=jI (jI a v) u:=by
 have e:=gstep_comm a.k (a.n,a.s,a.b) u v;unfold jI
 simp only
 rw [e]
theorem addL_comm (ac:List Ac) (u v:List V2):dD (dD ac u) v=dD (dD ac v) u:=by
 unfold dD
 induction ac generalizing u v with
 | nil=>simp
 | cons a ac ih =>
  cases u with
  | nil=>cases v <;> simp
  | cons x u =>
   cases v with
   | nil=>simp
   | cons y v=>simp [acAdd_comm a x y,ih]
theorem gW (ks:List Int) {cs cs':List Ct} (h:cs.Perm cs'):ph ks cs cs':=fun st k n=>by
 have hp:(ofK st k n cs).Perm (ofK st k n cs'):=h.filter _;refine ⟨?_,?_⟩
 ·unfold ix;exact hp.foldl_eq' (fun x _ y _ z=>addL_comm z x.vs y.vs) _
 ·constructor
  ·intro e;rw [e] at hp;exact List.nil_perm.1 hp
  ·intro e;rw [e] at hp;exact List.perm_nil.1 hp
end Go.Proofs.YtcgjflamgnjhcaaGreatDoor

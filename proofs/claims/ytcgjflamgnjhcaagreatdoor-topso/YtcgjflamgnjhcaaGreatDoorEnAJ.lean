/- Own texts in one. Conditions: as named in each. -/
import Derived.Test.YtcgjflamgnjhcaaGreatDoorBtBJ
import Derived.Test.YtcgjflamgnjhcaaGreatDoorBtDJ
set_option linter.unusedVariables false
set_option linter.unusedSimpArgs false
set_option maxRecDepth 100000
set_option maxHeartbeats 8000000
namespace Go.Proofs.YtcgjflamgnjhcaaGreatDoor
open Go.ChangeShapes Go.WideShapes Go.ChangeAt Go.RowKit
structure PutE (R:List Ct→Option Nat→World→Prop) (G:Int→Prop) (eb:Nat) (n:Nat) (p:Value):Prop where
 below:∀ cs rb w w',R cs rb w→Below w.heap.size w w'→R cs rb w'
 at_:∀ cs rb w,R cs rb w→∀ k,(k=eb∨rb=some k)→k < w.heap.size
 put:∀ cs rb (c:Ct) (vv:Value) w,R cs rb w→cs.length < 9→-1000≤c.st∧c.st≤9999→G c.st→c.vs.length=n→bK w vv 2 c.vs.length (bW c.vs)→Calls Tryz.prog 47 #[p,.int .i64 c.st,.agg #[.int .i64 c.key.1,.int .i64 c.key.2],vv] w fun e w'=>e=.returned (.tuple #[])∧∃ rb',R (cs++[c]) rb' w'∧(rb'=rb∨∃ k,rb'=some k∧w.heap.size≤k)∧KeptB w w' (fun k=>k=eb∨rb=some k)
theorem qt {a b c:World} {eb:Nat} {rb rb1:Option Nat} (h:KeptB a b (fun k=>k=eb∨rb=some k)) (k:KeptB b c (fun k=>k=eb∨rb1=some k)) (hr:rb1=rb∨∃ j,rb1=some j∧a.heap.size≤j):KeptB a c (fun k=>k=eb∨rb=some k) :=
 ⟨h.b0.trans k.b0,fun i hi hn=>(k.block i (Nat.lt_of_lt_of_le hi h.b0.size) (fun e=>by
  rcases e with e | e
  ·exact hn (.inl e)
  ·rcases hr with e9 | ⟨j,e9,hj⟩
   ·exact hn (.inr (by rw [← e9];exact e))
   ·rw [e9] at e;cases e;omega)).trans (h.block i hi hn)⟩
theorem rbE {x y z:Nat} {rb rb1 rb2:Option Nat} (h1:rb1=rb∨∃ j,rb1=some j∧x≤j) (h2:rb2=rb1∨∃ j,rb2=some j∧y≤j) (hxy:x≤y):rb2=rb∨∃ j,rb2=some j∧x≤j:=by
 rcases h2 with e | ⟨j,e,hj⟩
 ·rw [e];exact h1
 ·exact .inr ⟨j,e,by omega⟩
theorem etakeE_any (R:List Ct→Option Nat→World→Prop) (G:Int→Prop) (eb:Nat) (rb:Option Nat) (va vw vb:Value) (q:Qy) (ps:List (AgQ×Value)) (x:Ev) (upto:Int) (known:Bool) (p:Value) (cs:List Ct) (W:World) (h:QyG W va vw vb q ps) (h4:ps.length≤4) (hn:QyN q) (hx:∀ p∈evX x,okV p)
  (hW:mT x.t q.size q.slide) (hl0:0≤q.late) (hl1:q.late≤1000) (hP:PutE R G eb ps.length p) (hG:∀ st,eQ q upto known st=false→G st) (hR:R cs rb W) (hcs:cs.length≤4) :
  Calls Tryz.prog 46 #[qyV va vw vb q,dE x,.int .i64 upto,.bool known,.func (.func 47) #[p] #[]] W fun e w'=>e=.returned (.int .i64 (takeN q x upto known:Nat))∧∃ rb',R (cs++takeC q x upto known) rb' w'∧(rb'=rb∨∃ k,rb'=some k∧W.heap.size≤k)∧KeptB W w' (fun k=>k=eb∨rb=some k):=by
 have hbad:=hP.at_ cs rb W hR;have HG9:=aa hG;clear hG;unfold qyV;obtain ⟨ao,cap,rfl⟩:=am h.ag.row;obtain ⟨a2,c2,rfl⟩:=am h.wh;obtain ⟨a3,c3,rfl⟩:=am h.by_;have ba:=jR W (.cells #[.slice ao ps.length cap,.slice a2 q.wh.length c2,.slice a3 q.bys.length c3,.int .i64 q.size,.int .i64 q.slide,.int .i64 q.delay,.int .i64 q.late] 28) (.cells #[.int .i64 x.t,.int .i64 x.k1,.int .i64 x.k2,.int .i64 x.a1,.int .i64 x.a2,.int .i64 x.b1,.int .i64 x.b2] 43);have BQ:=aa (ah (ay W [.slice ao ps.length cap,.slice a2 q.wh.length c2,.slice a3 q.bys.length c3,.int .i64 q.size,.int .i64 q.slide,.int .i64 q.delay,.int .i64 q.late] 28) (aj (W.alloc (.cells #[.slice ao ps.length cap,.slice a2 q.wh.length c2,.slice a3 q.bys.length c3,.int .i64 q.size,.int .i64 q.slide,.int .i64 q.delay,.int .i64 q.late] 28)) (.cells #[.int .i64 x.t,.int .i64 x.k1,.int .i64 x.k2,.int .i64 x.a1,.int .i64 x.a2,.int .i64 x.b1,.int .i64 x.b2] 43)) (by simp));have BX:=aa (ay (W.alloc (.cells #[.slice ao ps.length cap,.slice a2 q.wh.length c2,.slice a3 q.bys.length c3,.int .i64 q.size,.int .i64 q.slide,.int .i64 q.delay,.int .i64 q.late] 28)) [.int .i64 x.t,.int .i64 x.k1,.int .i64 x.k2,.int .i64 x.a1,.int .i64 x.a2,.int .i64 x.b1,.int .i64 x.b2] 43);rw [show (W.alloc (.cells #[.slice ao ps.length cap,.slice a2 q.wh.length c2,.slice a3 q.bys.length c3,.int .i64 q.size,.int .i64 q.slide,.int .i64 q.delay,.int .i64 q.late] 28)).heap.size=W.heap.size+1 from by simp] at BX;have AK:=aa (oA (.slice ao ps.length cap) (.slice a2 q.wh.length c2) (.slice a3 q.bys.length c3) q ps x _ (aR h ba) hn hx);have HG:=aa (aR h ba);have HQA:=aa h.qa;have HBA:=aa ba;have HR:=aa (hP.below cs rb _ _ hR ba);have HP:=aa hP;have HN:=aa hn;have HX:=aa hx;have HW:=aa hW;obtain ⟨ws,hws⟩:∃ ws,nN x.t q.size q.slide=ws:=⟨_,rfl⟩;have HST:Hid (∀ w,Calls Tryz.prog 89 #[.int .i64 x.t,.int .i64 q.size,.int .i64 q.slide] w fun e w'=>∃ u,e=.returned u∧w'.ownsRow w.heap.size 3 1 u ws.length (ws.map (Value.int .i64))∧Below w.heap.size w w'):=fun w=>by
  rw [← hws];exact jY x.t q.size q.slide w hW
 have HIN:Hid (∀ st∈ws,-1000≤st∧st≤9999):=by
  rw [← hws];exact mm hW
 have HLEN:ws.length≤4:=by
  rw [← hws];exact kK hW
 have HT:Hid (∀ b,askQ q x=b→takeN q x upto known=(if b then em q upto known ws else 0)∧takeC q x upto known=(if b then ig q x upto known ws else [])):=fun b hb=>by
  unfold takeN takeC;rw [hb,hws];exact ⟨rfl,rfl⟩
 generalize askQ q x=b at *;generalize takeN q x upto known=N at *;generalize takeC q x upto known=C at *;unfold qyV dE at AK;unfold dE;have HBAD:=aa hbad;obtain ⟨k1,k2,hk⟩:∃ k1 k2,qo q x=(k1,k2):=⟨_,_,rfl⟩;have HK:=aa hk;clear h hn hx hW hP hR ba hbad hk hws;cases b with
 | false =>
  obtain ⟨e1,e2⟩:=HT.out false rfl;rw [if_neg (by decide)] at e1 e2;subst e1 e2
  go_enter Tryz.func46,Tryz.ntmps46
  go_wp2_with fail;refine AK.out.mono ?_;rintro e w1 ⟨rfl,hb⟩;have HR1:=HP.out.below _ _ _ _ HR.out hb;have HB1:=nxt HBA hb;clear hb HR AK HG;go_wp2_with fail
  go_ret
  exact ⟨rfl,rb,by simpa using HR1,.inl rfl,ae HB1.out⟩
 | true =>
  obtain ⟨e1,e2⟩:=HT.out true rfl;rw [if_pos rfl] at e1 e2;subst e1 e2;clear HT;have hqb:W.heap.size < ((W.alloc (.cells #[.slice ao ps.length cap,.slice a2 q.wh.length c2,.slice a3 q.bys.length c3,.int .i64 q.size,.int .i64 q.slide,.int .i64 q.delay,.int .i64 q.late] 28)).alloc (.cells #[.int .i64 x.t,.int .i64 x.k1,.int .i64 x.k2,.int .i64 x.a1,.int .i64 x.a2,.int .i64 x.b1,.int .i64 x.b2] 43)).heap.size:=BQ.out.lt;have hxb:W.heap.size+1 < ((W.alloc (.cells #[.slice ao ps.length cap,.slice a2 q.wh.length c2,.slice a3 q.bys.length c3,.int .i64 q.size,.int .i64 q.slide,.int .i64 q.delay,.int .i64 q.late] 28)).alloc (.cells #[.int .i64 x.t,.int .i64 x.k1,.int .i64 x.k2,.int .i64 x.a1,.int .i64 x.a2,.int .i64 x.b1,.int .i64 x.b2] 43)).heap.size:=BX.out.lt
  go_enter Tryz.func46,Tryz.ntmps46
  go_wp2_with fail;refine AK.out.mono ?_;rintro e w1 ⟨rfl,hb⟩;have HR1:=aa (HP.out.below _ _ _ _ HR.out hb);have HB1:=nxt HBA hb;have BQ1:=aa (ah BQ.out hb BQ.out.lt);have BX1:=aa (ah BX.out hb BX.out.lt);have HG1:=aa (aR HG.out hb);clear hb HR AK HG BQ BX;go_wp2_with fail;have PNH:=aa (@eJ Tryz.prog Tryz.f46 (fun e w'=>e=.returned (.int .i64 (em q upto known ws:Nat))∧∃ rb',R (cs++ig q x upto known ws) rb' w'∧(rb'=rb∨∃ k,rb'=some k∧W.heap.size≤k)∧KeptB W w' (fun k=>k=eb∨rb=some k)));refine pq _ _ (by kernel_rfl) _ W.heap.size (W.heap.size+1) q ps x ao a2 a3 cap c2 c3 k1 k2 upto known (.func (.func 47) #[p] #[]) _ rfl rfl rfl rfl rfl rfl rfl BQ1.out BX1.out HG1.out h4 HN.out HX.out HK.out (bX PNH.out) ?_;rintro t' kb au cu w2 ht j2 j3 j4 j5 j6 j10 j11 j12 ⟨hbl,hgs,ho,hb⟩;have HR2:=aa (HP.out.below _ _ _ _ HR1.out hb);have HB2:=nxt HB1 hb;have hW1:=HB1.out.size;have BQ2:=aa (ah BQ1.out hb BQ1.out.lt);have BX2:=aa (ah BX1.out hb BX1.out.lt);have HBL:=aa hbl;have HO:=aa ho;have hkb:kb < w2.heap.size:=hbl.lt;have hsz2:W.heap.size+1 < w2.heap.size:=BX2.out.lt;obtain ⟨f,hf,hi⟩:=dU t' ht;have e2:=aq (hi 2 (by decide)) j2;have e3:=aq (hi 3 (by decide)) j3;have e4:=aq (hi 4 (by decide)) j4;have e5:=aq (hi 5 (by decide)) j5;have e6:=aq (hi 6 (by decide)) j6;have e10:=aq (hi 10 (by decide)) j10;have e11:=aq (hi 11 (by decide)) j11;have e12:=aq (hi 12 (by decide)) j12;rw [e2,e3,e4,e5,e6,e10,e11,e12] at hf;clear hi ht j2 j3 j4 j5 j6 j10 j11 j12 e2 e3 e4 e5 e6 e10 e11 e12 PNH HR1 HB1 BQ1 BX1 HG1 hbl ho;subst hf;refine aQ ?_;rename_i K9 hK9;refine hK9 _ _ ?_;clear hK9;have x0:w2.cell? ⟨W.heap.size+1,0,none⟩=some (.int .i64 x.t):=BX2.out.c 0 (by simp);have q3:w2.cell? ⟨W.heap.size,3,none⟩=some (.int .i64 q.size):=BQ2.out.c 3 (by simp);have q4:w2.cell? ⟨W.heap.size,4,none⟩=some (.int .i64 q.slide):=BQ2.out.c 4 (by simp);go_wp2_with fail;refine (HST.out _).mono ?_;rintro e w3 ⟨u,rfl,hos,hb3⟩;obtain ⟨au3,cu3,rfl⟩:=ax hos;have HR3:=aa (HP.out.below _ _ _ _ HR2.out hb3);have HB3:=nxt HB2 hb3;have BQ3:=aa (ah BQ2.out hb3 BQ2.out.lt);have HBL3:=aa (ah HBL.out hb3 HBL.out.lt);have HO3:=aa (aB HO.out hb3 (Nat.le_refl _));have HS3:=aa hos;obtain ⟨-,-,hs1,hs2,hs3,-⟩:=HW.out;have HVL:Hid ((valsQ q x).length=ps.length):=by
   show _=_
   unfold valsQ;rw [List.length_map,← HQA.out,List.length_map]
  have hle1:W.heap.size≤w1.heap.size:=by omega
  have hle2:W.heap.size < w2.heap.size:=by omega
  clear HST hos hb3 HR2 HB2 BQ2 BX2 HBL HO x0 q3 q4 hb HX HN HW HQA HBA hqb hxb hsz2;go_wp2_with fail
  go_loopw [10,33] (fun l i wr=>∃ (m N:Nat) (C:List Ct) (rb1:Option Nat),m≤ws.length∧N≤m∧l=.int .i64 N∧i=.int .i64 m∧Hid (R C rb1 wr)∧Hid (C++ig q x upto known (ws.drop m)=cs++ig q x upto known ws)∧Hid (N+em q upto known (ws.drop m)=em q upto known ws)∧Hid (KeptB w3 wr (fun k=>k=eb∨rb=some k))∧Hid (rb1=rb∨∃ k,rb1=some k∧w3.heap.size≤k)∧C.length≤cs.length+m) (fun _ i _=>ws.length - (intOf i).toNat)
  case atStart=>exact ⟨0,0,cs,rb,Nat.zero_le _,Nat.le_refl _,rfl,rfl,HR3,by show _=_;simp,by show _=_;simp,ae (Below.refl _ _),.inl rfl,by omega⟩
  case round =>
   clear HR3;obtain ⟨m,N,C,rb1,hm,hN,rfl,rfl,HR,HC,HNN,KB,HRB,hcl⟩:=hrel
   by_cases hlt:m < ws.length
   ·have hso:=bf HS3.out KB.out (fun k e h9=>by have:=(aJ HS3.out k e).1;have:=HBAD.out k h9;omega);obtain ⟨g,off,y,hao,hy,y0,z1,z2,z3⟩:=cL (aD hso) m hlt;subst hao;have hst:=HIN.out ws[m] (List.getElem_mem hlt);have hdr:ws.drop m=ws[m] :: ws.drop (m+1):=List.drop_eq_getElem_cons hlt;rw [hdr,m6] at HC;rw [hdr,jO] at HNN;rw [List.getElem?_map,List.getElem?_eq_getElem hlt] at hy;simp only [Option.map_some,Option.some.injEq] at hy;subst hy;clear hdr hso;generalize ws[m]=st at *;obtain ⟨b1,b2⟩:=hst;unfold maxLen at z2;have BQr:=aa (aH BQ3.out KB.out (fun h9=>by have:=HBAD.out _ h9;omega));have q3:wr.cell? ⟨W.heap.size,3,none⟩=some (.int .i64 q.size):=BQr.out.c 3 (by simp);have q6:wr.cell? ⟨W.heap.size,6,none⟩=some (.int .i64 q.late):=BQr.out.c 6 (by simp);have lq:=BQr.out.lt;have BLr:=aa (aH HBL3.out KB.out (fun h9=>by have:=HBAD.out _ h9;omega));have g0:wr.cell? ⟨kb,0,none⟩=some (.int .i64 k1):=BLr.out.c 0 (by simp);have g1:wr.cell? ⟨kb,1,none⟩=some (.int .i64 k2):=BLr.out.c 1 (by simp);have lk:=BLr.out.lt;have PC:=aa (fun (hg:eQ q upto known st=false)=>HP.out.put C rb1 ⟨st,(k1,k2),valsQ q x⟩ (.slice au (valsQ q x).length cu) wr HR.out (by omega) ⟨b1,b2⟩ (HG9.out st hg) HVL.out (aD (bf HO3.out KB.out (fun k e h9=>by have:=(aJ HO3.out k e).1;have:=HBAD.out k h9;omega))));clear BQr BLr;have hn8:N≤4:=by omega
    have HLB:Hid (∀ b,eQ q upto known st=b→C++((if b then [] else [⟨st,(k1,k2),valsQ q x⟩])++ig q x upto known (ws.drop (m+1)))=cs++ig q x upto known ws∧((if b then 1 else 0)+em q upto known (ws.drop (m+1))+N=em q upto known ws)):=fun b hb=>by
     have e1:=HC.out;have e2:=HNN.out;rw [hb,HK.out] at e1;rw [hb] at e2;exact ⟨e1,by omega⟩
    clear HC HNN;obtain ⟨b,hlb⟩:∃ b,eQ q upto known st=b:=⟨_,rfl⟩;obtain ⟨e1,e2⟩:=HLB.out b hlb;clear HLB;have LATE:b=true→∀ l,l=Value.int .i64 ((N+1:Nat):Int)→True:=fun _ _ _=>trivial
    clear LATE;cases known with
    | false =>
     have hb0:b=false:=by rw [← hlb];rfl
     subst hb0;rw [if_neg (by decide)] at e1 e2;have E1:=aa e1;have E2:=aa e2;have HL0:=aa hlb;clear e1 e2 hlb;go_wp2_with fail;refine (PC.out HL0.out).mono ?_;rintro e w4 ⟨rfl,rb2,hr4,hrb4,hk4⟩;have HR4:=aa hr4;have KB4:=aa (qt KB.out hk4 HRB.out);have HRB4:=aa (rbE (z:=0) HRB.out hrb4 KB.out.b0.size);clear hr4 hk4 hrb4 PC;go_wp2_with fail;go_roundw
     case rel=>exact ⟨m+1,N,C++[⟨st,(k1,k2),valsQ q x⟩],rb2,by omega,by omega,rfl,by go_num,HR4,by show _=_;simpa using E1.out,by have:=E2.out;show _=_;omega,KB4,HRB4,by simp;omega⟩
     case measure=>simp [intOf];omega
    | true =>
     by_cases hd:st+q.size+q.late≤upto
     ·have hb0:b=true:=by rw [← hlb];simp [eQ,hd]
      subst hb0;rw [if_pos rfl] at e1 e2;have E1:=aa e1;have E2:=aa e2;clear e1 e2 hlb PC;have dd:decide (st+q.size+q.late≤upto)=true:=by simp [hd]
      go_wp2_with fail;go_roundw
      case rel=>exact ⟨m+1,N+1,C,rb1,by omega,by omega,by go_num,by go_num,HR,by show _=_;simpa using E1.out,by have:=E2.out;show _=_;omega,KB,HRB,by omega⟩
      case measure=>simp [intOf];omega
     ·have hb0:b=false:=by rw [← hlb];simp [eQ,hd]
      subst hb0;have dd:decide (st+q.size+q.late≤upto)=false:=by simp [hd]
      rw [if_neg (by decide)] at e1 e2;have E1:=aa e1;have E2:=aa e2;have HL0:=aa hlb;clear e1 e2 hlb;go_wp2_with fail;refine (PC.out HL0.out).mono ?_;rintro e w4 ⟨rfl,rb2,hr4,hrb4,hk4⟩;have HR4:=aa hr4;have KB4:=aa (qt KB.out hk4 HRB.out);have HRB4:=aa (rbE (z:=0) HRB.out hrb4 KB.out.b0.size);clear hr4 hk4 hrb4 PC;go_wp2_with fail;go_roundw
      case rel=>exact ⟨m+1,N,C++[⟨st,(k1,k2),valsQ q x⟩],rb2,by omega,by omega,rfl,by go_num,HR4,by show _=_;simpa using E1.out,by have:=E2.out;show _=_;omega,KB4,HRB4,by simp;omega⟩
      case measure=>simp [intOf];omega
   ·have hme:m=ws.length:=by omega
    subst hme;have E1:C=cs++ig q x upto known ws:=by
     have:=HC.out
     rw [List.drop_length] at this
     simpa [ig] using this
    have E2:N=em q upto known ws:=by
     have:=HNN.out
     rw [List.drop_length] at this
     simpa [em] using this
    subst E1 E2;go_wp2_with fail
    go_ret
    exact ⟨rfl,rb1,HR.out,by
     rcases HRB.out with e | ⟨k,e,hk⟩
     ·exact .inl e
     ·exact .inr ⟨k,e,by have:=HB3.out.size;omega⟩,af (ae HB3.out) KB.out⟩
theorem ko {k n:Int} (h:fldC k n=0):vok k n=true:=by
 unfold fldC at h
 by_cases h1:vok k n=false
 ·rw [if_pos h1] at h;omega
 ·simpa using h1
theorem kJ {x:Ev} (h:evC x=0):(∀ p∈evX x,okV p)∧0≤x.t∧x.t≤9999:=by
 have h1:0≤x.t:=by
  unfold evC at h
  by_cases h1:x.t < 0
  ·rw [if_pos h1] at h;omega
  ·omega
 have h2:x.t≤9999:=by
  unfold evC at h;rw [if_neg (by omega)] at h
  by_cases h3:9999 < x.t
  ·rw [if_pos h3] at h;omega
  ·omega
 unfold evC at h;rw [if_neg (by omega),if_neg (by omega)] at h;have h3:fldC x.k1 x.k2=0:=by
  by_cases h3:fldC x.k1 x.k2=0
  ·exact h3
  ·rw [if_pos h3] at h;exact absurd h h3
 rw [if_neg (by simp [h3])] at h;have h4:fldC x.a1 x.a2=0:=by
  by_cases h4:fldC x.a1 x.a2=0
  ·exact h4
  ·rw [if_pos h4] at h;exact absurd h h4
 rw [if_neg (by simp [h4])] at h;refine ⟨fun p hp=>?_,h1,h2⟩;simp only [evX,evE,List.mem_cons,List.not_mem_nil,or_false] at hp
 rcases hp with rfl | rfl | rfl | rfl
 ·unfold okV pA numK numN vok;rw [if_pos (by omega),if_pos (by omega)]
  simp
  omega
 ·exact ko h3
 ·exact ko h4
 ·exact ko h
theorem jh {q:Qy} {x:Ev} (h:mT x.t q.size q.slide) (u:Int) (k:Bool):(takeC q x u k).length≤4∧takeN q x u k≤4:=by
 unfold takeC takeN
 have:=kK h
 have h1:=putL_len q x u k (nN x.t q.size q.slide);have h2:=lateL_len q u k (nN x.t q.size q.slide)
 split
 ·exact ⟨by omega,by omega⟩
 ·exact ⟨by simp,by simp⟩
structure QyS (q:Qy):Prop where
 s1:1≤q.slide
 s2:q.slide≤q.size
 s3:q.size≤1000
 s4:q.size≤4 * q.slide
 d0:0≤q.delay
 d1:q.delay≤1000
 l0:0≤q.late
 l1:q.late≤1000
theorem btake_any (R:List Ct→World→Prop) (bad:Nat→Prop) (va vw vb lv:Value) (q:Qy) (ps:List (AgQ×Value)) (l:List Ev) (p1 p2:Value) (cs:List Ct) (W:World) (hK:∀ w',KeptB W w' bad→QyG w' va vw vb q ps∧bK w' lv 7 l.length (rowOf eC l)) (h4:ps.length≤4) (hn:QyN q) (hS:QyS q)
  (hP:PutW R bad ps.length p1 p2) (hR:R cs W) (hbad:∀ k,bad k→k < W.heap.size) (hcs:cs.length+4 * l.length≤480) :
  Calls Tryz.prog 64 #[qyV va vw vb q,lv,.func (.func 61) #[] #[p1,p2]] W fun e w'=>e=.returned (.int .i64 (partN q 0 false l:Nat))∧R (cs++partC q 0 false l) w'∧KeptB W w' bad:=by
 unfold qyV;have h0:=hK W (ae (Below.refl _ _));obtain ⟨ao,cap,rfl⟩:=am h0.1.ag.row;obtain ⟨a2,c2,rfl⟩:=am h0.1.wh;obtain ⟨a3,c3,rfl⟩:=am h0.1.by_;obtain ⟨al,cl,rfl⟩:=am h0.2;have ba:=aj W (.cells #[Value.slice ao ps.length cap,Value.slice a2 q.wh.length c2,Value.slice a3 q.bys.length c3,Value.int .i64 q.size,Value.int .i64 q.slide,Value.int .i64 q.delay,Value.int .i64 q.late] 28);have BQ:=aa (ay W [Value.slice ao ps.length cap,Value.slice a2 q.wh.length c2,Value.slice a3 q.bys.length c3,Value.int .i64 q.size,Value.int .i64 q.slide,Value.int .i64 q.delay,Value.int .i64 q.late] 28);have HBA:=aa ba;have HR:=aa (hP.below _ _ _ hR ba);have HP:=aa hP;have HN:=aa hn;have HSQ:=aa hS;have HKK:=aa hK;have HBAD:=aa hbad;have hsl:=hS.d0;have hsl1:=hS.d1;have hsz:W.heap.size < (W.alloc (.cells #[Value.slice ao ps.length cap,Value.slice a2 q.wh.length c2,Value.slice a3 q.bys.length c3,Value.int .i64 q.size,Value.int .i64 q.slide,Value.int .i64 q.delay,Value.int .i64 q.late] 28)).heap.size:=BQ.out.lt;clear h0 hK hn hS hP hR hbad ba;generalize hCT:partC q 0 false l=CT at *;generalize hNT:partN q 0 false l=NT at *;have HCT:=aa hCT;have HNT:=aa hNT;clear hCT hNT
 go_enter Tryz.func64,Tryz.ntmps64
 go_wp2_with fail;generalize (W.alloc (.cells #[Value.slice ao ps.length cap,Value.slice a2 q.wh.length c2,Value.slice a3 q.bys.length c3,Value.int .i64 q.size,Value.int .i64 q.slide,Value.int .i64 q.delay,Value.int .i64 q.late] 28))=w0 at *
 go_loopw [6,7,8,13] (fun n g k i wr=>∃ (m N:Nat) (gr:Int) (kn:Bool) (C:List Ct),m≤l.length∧N≤4 * m∧0≤gr∧gr≤9999∧n=.int .i64 N∧g=.int .i64 gr∧k=.bool kn∧i=.int .i64 m∧Hid (R C wr)∧Hid (C++partC q gr kn (l.drop m)=cs++CT)∧Hid (N+partN q gr kn (l.drop m)=NT)∧Hid (KeptB w0 wr bad)∧C.length≤cs.length+4 * m) (fun _ _ _ i _=>l.length - (intOf i).toNat)
 case atStart=>exact ⟨0,0,0,false,cs,Nat.zero_le _,Nat.le_refl _,by decide,by decide,rfl,rfl,rfl,rfl,HR,by show _=_;rw [List.drop_zero,HCT.out],by show _=_;rw [List.drop_zero,HNT.out];omega,ae (Below.refl _ _),by omega⟩
 case round =>
  clear HR;obtain ⟨m,N,gr,kn,C,hm,hN,hg0,hg1,rfl,rfl,rfl,rfl,HR,HC,HNN,KB,hcl⟩:=hrel
  by_cases hlt:m < l.length
  ·have hkr:=HKK.out wr (af (ae HBA.out) KB.out);obtain ⟨g,off,hao,hcell,z1,z2,z3⟩:=bj dX hkr.2 m hlt;subst hao;have hdr:l.drop m=l[m] :: l.drop (m+1):=List.drop_eq_getElem_cons hlt;rw [hdr] at HC HNN;have HGr:=aa hkr.1;clear hdr hkr;generalize l[m]=x at *;obtain ⟨y0,y1,y2,y3,y4,y5,y6⟩:=ev7 hcell;unfold maxLen at z2;have ba2:=aj wr (.cells #[Value.int .i64 x.t,Value.int .i64 x.k1,Value.int .i64 x.k2,Value.int .i64 x.a1,Value.int .i64 x.a2,Value.int .i64 x.b1,Value.int .i64 x.b2] 43);have BX:=aa (ay wr [Value.int .i64 x.t,Value.int .i64 x.k1,Value.int .i64 x.k2,Value.int .i64 x.a1,Value.int .i64 x.a2,Value.int .i64 x.b1,Value.int .i64 x.b2] 43);have SC:=fo x (wr.alloc (.cells #[Value.int .i64 x.t,Value.int .i64 x.k1,Value.int .i64 x.k2,Value.int .i64 x.a1,Value.int .i64 x.a2,Value.int .i64 x.b1,Value.int .i64 x.b2] 43));unfold dE at SC;have HBA2:=aa ba2;clear hcell ba2
   by_cases hc:evC x=0
   ·have e9:gG 0=.nilIface:=rfl;rw [hc,e9] at SC;have SCH:=aa SC;obtain ⟨hx,ht0,ht1⟩:=kJ hc;have hW:mT x.t q.size q.slide:=⟨ht0,ht1,HSQ.out.s1,HSQ.out.s2,HSQ.out.s3,HSQ.out.s4⟩;have HX:=aa hx;have HW:=aa hW;have HC1:Hid (C++(takeC q x (gr - q.delay) kn++partC q (max gr x.t) true (l.drop (m+1)))=cs++CT):=by
     have e:=HC.out;rw [partC,if_neg (by simp [hc])] at e;exact e
    have HN1:Hid (N+(takeN q x (gr - q.delay) kn+partN q (max gr x.t) true (l.drop (m+1)))=NT):=by
     have e:=HNN.out;rw [partN,if_neg (by simp [hc])] at e;exact e
    obtain ⟨t4,n4⟩:=jh hW (gr - q.delay) kn;clear SC hc hx hW HC HNN e9;go_wp2_with fail;refine SCH.out.mono ?_;rintro e w1 ⟨rfl,hb⟩;have hS1:Below wr.heap.size wr w1:=HBA2.out.trans (hb.mono HBA2.out.size);have HR1:=aa (HP.out.below _ _ _ HR.out hS1);have KB1:=aa (af KB.out (ae hS1));have BX1:=aa (ah BX.out hb BX.out.lt);have BQ1:=aa (aH BQ.out KB1.out (fun h9=>by have:=HBAD.out _ h9;omega));have hszr:W.heap.size < wr.heap.size:=Nat.lt_of_lt_of_le hsz KB.out.b0.size;have hnx:¬ bad wr.heap.size:=fun h9=>by have:=HBAD.out _ h9;omega
    have hs1:=hS1.size;have TK:=aa (etake_any R bad _ _ _ q ps x (gr - q.delay) kn p1 p2 C w1 (aR HGr.out hS1) h4 HN.out HX.out HW.out HSQ.out.l0 HSQ.out.l1 HP.out HR1.out (fun k h9=>by have:=HBAD.out k h9;omega) (by omega));unfold qyV dE at TK;have q0:w1.cell? ⟨W.heap.size,0,none⟩=some (Value.slice ao ps.length cap):=BQ1.out.c 0 (by simp);have q1:w1.cell? ⟨W.heap.size,1,none⟩=some (Value.slice a2 q.wh.length c2):=BQ1.out.c 1 (by simp);have q2:w1.cell? ⟨W.heap.size,2,none⟩=some (Value.slice a3 q.bys.length c3):=BQ1.out.c 2 (by simp);have q3:w1.cell? ⟨W.heap.size,3,none⟩=some (Value.int .i64 q.size):=BQ1.out.c 3 (by simp);have q4:w1.cell? ⟨W.heap.size,4,none⟩=some (Value.int .i64 q.slide):=BQ1.out.c 4 (by simp);have q5:w1.cell? ⟨W.heap.size,5,none⟩=some (Value.int .i64 q.delay):=BQ1.out.c 5 (by simp);have q6:w1.cell? ⟨W.heap.size,6,none⟩=some (Value.int .i64 q.late):=BQ1.out.c 6 (by simp);have x0:w1.cell? ⟨wr.heap.size,0,none⟩=some (Value.int .i64 x.t):=BX1.out.c 0 (by simp);have x1:w1.cell? ⟨wr.heap.size,1,none⟩=some (Value.int .i64 x.k1):=BX1.out.c 1 (by simp);have x2:w1.cell? ⟨wr.heap.size,2,none⟩=some (Value.int .i64 x.k2):=BX1.out.c 2 (by simp);have x3:w1.cell? ⟨wr.heap.size,3,none⟩=some (Value.int .i64 x.a1):=BX1.out.c 3 (by simp);have x4:w1.cell? ⟨wr.heap.size,4,none⟩=some (Value.int .i64 x.a2):=BX1.out.c 4 (by simp);have x5:w1.cell? ⟨wr.heap.size,5,none⟩=some (Value.int .i64 x.b1):=BX1.out.c 5 (by simp);have x6:w1.cell? ⟨wr.heap.size,6,none⟩=some (Value.int .i64 x.b2):=BX1.out.c 6 (by simp);have lq:=BQ1.out.lt;have lx:=BX1.out.lt;clear hb hS1 SCH HR KB BX HGr HBA2 y0 y1 y2 y3 y4 y5 y6;generalize takeC q x (gr - q.delay) kn=TC at *;generalize takeN q x (gr - q.delay) kn=TN at *;go_wp2_with fail;refine TK.out.mono ?_;rintro e w2 ⟨rfl,hr2,hk2⟩;have HR2:=aa hr2;have KB2:=aa (af KB1.out hk2);have X0:w2.cell? ⟨wr.heap.size,0,none⟩=some (Value.int .i64 x.t):=(aH BX1.out hk2 hnx).c 0 (by simp);have lx2:wr.heap.size < w2.heap.size:=(aH BX1.out hk2 hnx).lt;clear hr2 hk2 TK KB1 BX1 BQ1 q0 q1 q2 q3 q4 q5 q6 x0 x1 x2 x3 x4 x5 x6 HR1
    by_cases hmx:gr≤x.t
    ·have emx:max gr x.t=x.t:=by omega
     rw [emx] at HC1 HN1;go_wp2_with fail;go_roundw
     case rel=>exact ⟨m+1,N+TN,x.t,true,C++TC,by omega,by omega,by omega,by omega,by go_num,by go_num,rfl,by go_num,HR2,by show _=_;rw [List.append_assoc];exact HC1.out,by have:=HN1.out;show _=_;omega,KB2,by simp;omega⟩
     case measure=>simp [intOf];omega
    ·have emx:max gr x.t=gr:=by omega
     rw [emx] at HC1 HN1;go_wp2_with fail;go_roundw
     case rel=>exact ⟨m+1,N+TN,gr,true,C++TC,by omega,by omega,by omega,by omega,by go_num,by go_num,rfl,by go_num,HR2,by show _=_;rw [List.append_assoc];exact HC1.out,by have:=HN1.out;show _=_;omega,KB2,by simp;omega⟩
     case measure=>simp [intOf];omega
   ·have e9:gG (evC x)=.iface 93 (.int .i64 (evC x)):=by unfold gG;rw [if_neg hc]
    rw [e9] at SC;have SCH:=aa SC;have HC1:Hid (C++partC q gr kn (l.drop (m+1))=cs++CT):=by
     have e:=HC.out;rw [partC,if_pos hc] at e;exact e
    have HN1:Hid (N+partN q gr kn (l.drop (m+1))=NT):=by
     have e:=HNN.out;rw [partN,if_pos hc] at e;exact e
    generalize evC x=c at *;clear SC e9 HC HNN hc;go_wp2_with fail;refine SCH.out.mono ?_;rintro e w1 ⟨rfl,hb⟩;have hS1:Below wr.heap.size wr w1:=HBA2.out.trans (hb.mono HBA2.out.size);have HR1:=aa (HP.out.below _ _ _ HR.out hS1);have KB1:=aa (af KB.out (ae hS1));clear hb hS1 SCH HR KB BX HGr HBA2 y0 y1 y2 y3 y4 y5 y6;go_wp2_with fail;go_roundw
    case rel=>exact ⟨m+1,N,gr,kn,C,by omega,by omega,hg0,hg1,rfl,rfl,rfl,by go_num,HR1,HC1,HN1,KB1,by omega⟩
    case measure=>simp [intOf];omega
  ·have hme:m=l.length:=by omega
   subst hme;have E1:C=cs++CT:=by
    have:=HC.out
    rw [List.drop_length] at this
    simpa [partC] using this
   have E2:N=NT:=by
    have:=HNN.out
    rw [List.drop_length] at this
    simpa [partN] using this
   subst E1 E2;go_wp2_with fail
   go_ret
   exact ⟨rfl,HR.out,af (ae HBA.out) KB.out⟩
end Go.Proofs.YtcgjflamgnjhcaaGreatDoor

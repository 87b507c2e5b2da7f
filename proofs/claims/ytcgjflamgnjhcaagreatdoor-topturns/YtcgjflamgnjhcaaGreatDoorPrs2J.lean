/- Own texts in one. Conditions: as named in each. -/
import Derived.Test.YtcgjflamgnjhcaaGreatDoorWinPureJ
import Derived.Test.YtcgjflamgnjhcaaGreatDoorKinJ
set_option linter.unusedVariables false
set_option linter.unusedSimpArgs false
set_option maxRecDepth 100000
set_option maxHeartbeats 8000000
namespace Go.Proofs.YtcgjflamgnjhcaaGreatDoor
open Go.ChangeShapes Go.WideShapes Go.ChangeAt Go.RowKit
theorem nB (t:List Value) (h:t.length=30):∃ f:Nat→Value,t=f 0 :: f 1 :: f 2 :: f 3 :: f 4 :: f 5 :: f 6 :: f 7 :: f 8 :: f 9 :: f 10 :: f 11 :: f 12 :: f 13 :: f 14 :: f 15 :: f 16 :: f 17 :: f 18 :: f 19 :: f 20 :: f 21 :: f 22 :: f 23 :: f 24 :: f 25 :: f 26 :: f 27 :: f 28 :: f 29 :: []∧∀ i,i < 30→t[i]?=some (f i):=by
 have e1:t=(List.range 30).map (fun i=>t.getD i undef):=by
  apply List.ext_getElem
  ·simp [h]
  ·intro i h1 h2
   simp [List.getD,h1]
 refine ⟨fun i=>t.getD i undef,?_,fun i hi=>?_⟩
 ·have e2:∀ g:Nat→Value,(List.range 30).map g=g 0 :: g 1 :: g 2 :: g 3 :: g 4 :: g 5 :: g 6 :: g 7 :: g 8 :: g 9 :: g 10 :: g 11 :: g 12 :: g 13 :: g 14 :: g 15 :: g 16 :: g 17 :: g 18 :: g 19 :: g 20 :: g 21 :: g 22 :: g 23 :: g 24 :: g 25 :: g 26 :: g 27 :: g 28 :: g 29 :: []:=fun _=>rfl
  exact e1.trans (e2 _)
 ·simp [List.getD,h,hi]
theorem takeSign_r1 (Q:Exit→Act→World→Prop) (C1:Code) (h1:rgn 1 (Tryz.f166.body.getD .skip)=some C1) (t:List Value) (gp gm g4:Nat) (wv:Value) (ws:Ws) (d e rank:Int) (w:World) (ht:t.length=30) (k0:t[0]?=some (.pointer (some ⟨gp,0,none⟩))) (k1:t[1]?=some (.int .i64 rank)) (k4:t[4]?=some (.pointer (some ⟨g4,0,none⟩)))
  (h:PS w gp gm wv ws d e)
  (hpan:∀ c (a:Act) o v w,Q (.panic c) (a.put o v) w→Q (.panic c) a w)
  (hQ:∀ (t':List Value) (gs:Nat) (s:Sg) (b:Bool) (w':World),t'.length=30→t'[0]?=some (.pointer (some ⟨gp,0,none⟩))→t'[1]?=some (.int .i64 rank)→t'[4]?=some (.pointer (some ⟨g4,0,none⟩))→t'[6]?=some (.pointer (some ⟨gs,0,none⟩))→t'[7]?=some (.bool b)→(sgIn sgL (hdW ws)).getD sg0=s∧(sgIn sgL (hdW ws)).isSome=b∧BlkAt w' gs [.int .i64 s.rank,.int .i64 s.op,.bool s.turned,.bool s.denied]∧w.heap.size≤gs∧Below w.heap.size w w'→Q .normal { tmps:=t'.toArray,defers:=[] } w') :
  Code.wp Tryz.prog C1 Q { tmps:=t.toArray,defers:=[] } w:=by
 have HQ:=aa hQ;have HPN:=aa hpan;have dd:Below w.heap.size w ({ w with drawn:=w.drawn+1 }:World):=(Below.refl _ _).drew;have H:=aa h;have hS:=dd;obtain ⟨s,hs⟩:∃ s,(sgIn sgL (hdW ws)).getD sg0=s:=⟨_,rfl⟩;obtain ⟨b,hb⟩:∃ b,(sgIn sgL (hdW ws)).isSome=b:=⟨_,rfl⟩;have HS:=aa hs;have HBL:=aa hb;clear hQ hpan h dd hs hb;obtain ⟨f,hf,hi⟩:=nB t ht;have e0:=am (hi 0 (by decide)) k0;have e1:=am (hi 1 (by decide)) k1;have e4:=am (hi 4 (by decide)) k4;rw [e0,e1,e4] at hf;clear hi ht k0 e0 k1 e1 k4 e4;subst hf;unfold Tryz.f166 at h1
 simp [rgn] at h1
 subst h1;refine wp_region_held (S:=fun w'=>Below w.heap.size w w') (by kernel_rfl) ?_;generalize ({ w with drawn:=w.drawn+1 }:World)=wd at *;refine HT 0 (v:=.pointer (some ⟨gp,0,none⟩)) rfl HPN.out (fun wq hq=>by go_simp) hS ?_;refine HT 1 (v:=.pointer (some ⟨gp,0,none⟩)) rfl HPN.out (fun wq hq=>by go_simp) hS ?_;refine HT 2 (v:=.pointer (some ⟨gp,1,none⟩)) rfl HPN.out (fun wq hq=>by go_simp) hS ?_;refine HT 3 (v:=.map (some gm)) rfl HPN.out (fun wq hq=>by have q:=(bz H.out hq).bd.c 1 (by simp);go_simp) hS ?_;refine HT 4 (v:=.pointer (some ⟨gp,0,none⟩)) rfl HPN.out (fun wq hq=>by go_simp) hS ?_;refine H2 5 10 rfl rfl ?_ ?_
 ·intro K' hK;go_simp;refine (iF gp gm wv ws d e _ (bz H.out hS)).mono ?_;rintro x w1 ⟨rfl,hb⟩;have hS1:=hS.trans (hb.mono (by have:=hS.size;first | exact this | exact Nat.le_refl _));refine hK _ _ ⟨hS1,?_⟩;clear hK hb;refine HT 6 (v:=.tuple #[.agg #[.int .i64 s.rank,.int .i64 s.op,.bool s.turned,.bool s.denied],.bool b]) rfl HPN.out (fun wq hq=>by have q:=qG (bz H.out hq).sg (hdW ws);rw [HS.out,HBL.out] at q;unfold sgV at q;go_simp) hS1 ?_;refine HT 7 (v:=.tuple #[.agg #[.int .i64 s.rank,.int .i64 s.op,.bool s.turned,.bool s.denied],.bool b]) rfl HPN.out (fun wq hq=>by go_simp) hS1 ?_;refine HT 8 (v:=.agg #[.int .i64 s.rank,.int .i64 s.op,.bool s.turned,.bool s.denied]) rfl HPN.out (fun wq hq=>by go_simp) hS1 ?_;refine HT 9 (v:=.bool b) rfl HPN.out (fun wq hq=>by go_simp) hS1 ?_;have BZ:=aa (az w1 [.int .i64 0,.int .i64 0,.bool false,.bool false] 176);have hgs:Hid (w.heap.size≤w1.heap.size):=hS1.size;have hS2:=hS1.alloc hS1.size (.cells #[.int .i64 0,.int .i64 0,.bool false,.bool false] 176);refine HG 10 rfl ?_;intro K' hK;go_simp;refine hK _ _ ⟨hS2,?_⟩;clear hK;generalize hg:w1.heap.size=gs at *;have hS2:Hid (Below w.heap.size w (w1.alloc (.cells #[.int .i64 0,.int .i64 0,.bool false,.bool false] 176))):=hS2;generalize w1.alloc (.cells #[.int .i64 0,.int .i64 0,.bool false,.bool false] 176)=w2 at *;have hS2:=hS2.out;clear hg;have f0:=BZ.out.fz 0;have f1:=BZ.out.fz 1;have f2:=BZ.out.fz 2;have f3:=BZ.out.fz 3;have z0:=BZ.out.c 0 (by simp);have z1:=BZ.out.c 1 (by simp);have z2:=BZ.out.c 2 (by simp);have z3:=BZ.out.c 3 (by simp);have B4:=aa (ay (ay (ay (ay BZ.out 0 (.int .i64 s.rank) (by simp)) 1 (.int .i64 s.op) (by simp)) 2 (.bool s.turned) (by simp)) 3 (.bool s.denied) (by simp));have hSz:=((((hS2.setCell (p:=⟨gs,0,none⟩) hgs.out (.int .i64 s.rank)).setCell (p:=⟨gs,1,none⟩) hgs.out (.int .i64 s.op)).setCell (p:=⟨gs,2,none⟩) hgs.out (.bool s.turned)).setCell (p:=⟨gs,3,none⟩) hgs.out (.bool s.denied));refine HG 11 rfl ?_;intro K' hK;go_simp;refine hK _ _ ⟨hSz,?_⟩;clear hK;refine HG 12 rfl ?_;intro K' hK;go_simp;refine hK _ _ ⟨hSz,?_⟩;clear hK;refine wpAnyH_done (by kernel_rfl) ?_ _;exact HQ.out _ gs s b _ rfl rfl rfl rfl rfl rfl ⟨HS.out,HBL.out,by simpa using B4.out,hgs.out,hSz⟩
 ·intro K' hK;have BZ0:=aa (az wd [.int .i64 0,.int .i64 0,.bool false,.bool false] 176);have hgs:Hid (w.heap.size≤wd.heap.size):=hS.size;have hS2:=hS.alloc hS.size (.cells #[.int .i64 0,.int .i64 0,.bool false,.bool false] 176);go_simp;refine hK _ _ ⟨hS2,?_⟩;clear hK;generalize hg:wd.heap.size=gs at *;generalize wd.alloc (.cells #[.int .i64 0,.int .i64 0,.bool false,.bool false] 176)=w2 at *;clear hg;refine HG 5 rfl ?_;intro K' hK;go_simp;refine (iF gp gm wv ws d e _ (bz H.out hS2)).mono ?_;rintro x w1 ⟨rfl,hb⟩;have hS3:=hS2.trans (hb.mono (by have:=hS2.size;first | exact this | exact Nat.le_refl _));have BZ:=aa (ai BZ0.out hb BZ0.out.lt);refine hK _ _ ⟨hS3,?_⟩;clear hK hb;refine HT 6 (v:=.tuple #[.agg #[.int .i64 s.rank,.int .i64 s.op,.bool s.turned,.bool s.denied],.bool b]) rfl HPN.out (fun wq hq=>by have q:=qG (bz H.out hq).sg (hdW ws);rw [HS.out,HBL.out] at q;unfold sgV at q;go_simp) hS3 ?_;refine HT 7 (v:=.tuple #[.agg #[.int .i64 s.rank,.int .i64 s.op,.bool s.turned,.bool s.denied],.bool b]) rfl HPN.out (fun wq hq=>by go_simp) hS3 ?_;refine HT 8 (v:=.agg #[.int .i64 s.rank,.int .i64 s.op,.bool s.turned,.bool s.denied]) rfl HPN.out (fun wq hq=>by go_simp) hS3 ?_;refine HT 9 (v:=.bool b) rfl HPN.out (fun wq hq=>by go_simp) hS3 ?_;have f0:=BZ.out.fz 0;have f1:=BZ.out.fz 1;have f2:=BZ.out.fz 2;have f3:=BZ.out.fz 3;have z0:=BZ.out.c 0 (by simp);have z1:=BZ.out.c 1 (by simp);have z2:=BZ.out.c 2 (by simp);have z3:=BZ.out.c 3 (by simp);have B4:=aa (ay (ay (ay (ay BZ.out 0 (.int .i64 s.rank) (by simp)) 1 (.int .i64 s.op) (by simp)) 2 (.bool s.turned) (by simp)) 3 (.bool s.denied) (by simp));have hSz:=((((hS3.setCell (p:=⟨gs,0,none⟩) hgs.out (.int .i64 s.rank)).setCell (p:=⟨gs,1,none⟩) hgs.out (.int .i64 s.op)).setCell (p:=⟨gs,2,none⟩) hgs.out (.bool s.turned)).setCell (p:=⟨gs,3,none⟩) hgs.out (.bool s.denied));refine HG 11 rfl ?_;intro K' hK;go_simp;refine hK _ _ ⟨hSz,?_⟩;clear hK;refine HG 12 rfl ?_;intro K' hK;go_simp;refine hK _ _ ⟨hSz,?_⟩;clear hK;refine wpAnyH_done (by kernel_rfl) ?_ _;exact HQ.out _ gs s b _ rfl rfl rfl rfl rfl rfl ⟨HS.out,HBL.out,by simpa using B4.out,hgs.out,hSz⟩
theorem sgOf_nil:sgIn sgL (hdW [])=none:=by decide
theorem tkS_none {rank:Int} {ws:Ws} (h:sgIn sgL (hdW ws)=none):tkS rank ws=none:=by
 cases ws with
 | nil=>rfl
 | cons x r =>
  have h:qt x=none:=h;simp only [tkS,h]
theorem tkS_some {rank:Int} {ws:Ws} {s:Sg} (h:sgIn sgL (hdW ws)=some s):∃ x r,ws=x :: r∧tkS rank ws=if s.rank=rank then some (s,r) else none:=by
 cases ws with
 | nil=>rw [sgOf_nil] at h;cases h
 | cons x r =>
  have h:qt x=some s:=h;refine ⟨x,r,rfl,?_⟩;simp only [tkS,h]
def dJ (w w':World) (gp gm:Nat) (rank:Int) (wv:Value) (ws:Ws) (d e:Int) (r:Ending):Prop :=
 match tkS rank ws with
 | some p=>r=.returned (.tuple #[sgV p.1,.bool true])∧KeptB w w' (fun q=>q=gp)∧∃ wv',PS w' gp gm wv' p.2 d e
 | none=>r=.returned (.tuple #[sgV sg0,.bool false])∧KeptB w w' (fun q=>q=gp)∧PS w' gp gm wv ws d e
theorem takeSign_gen (R:Ending→World→Prop) (gp gm:Nat) (rank:Int) (wv:Value) (ws:Ws) (d e:Int) (w:World) (h:PS w gp gm wv ws d e)
  (hN:tkS rank ws=none→∀ w',KeptB w w' (fun q=>q=gp)→PS w' gp gm wv ws d e→R (.returned (.tuple #[sgV sg0,.bool false])) w')
  (hY:∀ s ws1,tkS rank ws=some (s,ws1)→∀ w' wv',KeptB w w' (fun q=>q=gp)→PS w' gp gm wv' ws1 d e→R (.returned (.tuple #[sgV s,.bool true])) w') :
  Calls Tryz.prog 166 #[.pointer (some ⟨gp,0,none⟩),.int .i64 rank] w R:=by
 have HN:=aa hN;have HY:=aa hY;clear hN hY;have H:=aa h;have BA:=aa (aj w (.cells #[.int .i64 0,.int .i64 0,.bool false,.bool false] 176));have BL:=aa (az w [.int .i64 0,.int .i64 0,.bool false,.bool false] 176);have H0:=aa (bz h BA.out);have hlt:gp < w.heap.size:=h.bd.lt;clear h
 go_enter Tryz.func166,Tryz.ntmps166
 go_wp2_with fail;have hg4:w.heap.size≠gp:=by omega
 generalize w.alloc (.cells #[.int .i64 0,.int .i64 0,.bool false,.bool false] 176)=wa at *;generalize hgr:w.heap.size=g4 at *;have PNH:=aa (@eX Tryz.prog Tryz.f166 R);refine takeSign_r1 _ _ (by kernel_rfl) _ gp gm g4 wv ws d e rank _ rfl rfl rfl rfl H0.out (bX PNH.out) ?_;rintro t' gs s b w1 ht k0 k1 k4 k6 k7 ⟨hs,hb,hbl,hgs,hbw⟩;have BL1:=aa (ai BL.out hbw BL.out.lt);have P1:=aa (bz H0.out hbw);have BB:Hid (Below g4 w w1):=BA.out.trans (hbw.mono (by have:=BA.out.size;omega));have hne:gs≠g4:=by have:=BL.out.lt;omega
 have hg9:w.heap.size≤g4:=by omega
 have KB:∀ wz,Below g4 w wz→KeptB w wz (fun q=>q=gp):=fun wz hz=>ae (hz.mono hg9)
 have KBH:=aa KB;obtain ⟨f,hf,hi⟩:=nB t' ht;have e0:=am (hi 0 (by decide)) k0;have e1:=am (hi 1 (by decide)) k1;have e4:=am (hi 4 (by decide)) k4;have e6:=am (hi 6 (by decide)) k6;have e7:=am (hi 7 (by decide)) k7;rw [e0,e1,e4,e6,e7] at hf;clear hi ht k0 k1 k4 k6 k7 e0 e1 e4 e6 e7 KB BL H0 PNH;subst hf;have f0:=BL1.out.fz 0;have f1:=BL1.out.fz 1;have f2:=BL1.out.fz 2;have f3:=BL1.out.fz 3;have c0:=BL1.out.c 0 (by simp);have c1:=BL1.out.c 1 (by simp);have c2:=BL1.out.c 2 (by simp);have c3:=BL1.out.c 3 (by simp);have q0:=hbl.c 0 (by simp);have q1:=hbl.c 1 (by simp);have q2:=hbl.c 2 (by simp);have q3:=hbl.c 3 (by simp);have HBL:=aa hbl;simp only [List.getElem?_cons_zero,List.getElem?_cons_succ] at c0 c1 c2 c3 q0 q1 q2 q3;refine aP ?_;rename_i K9 hK9;refine hK9 _ _ ?_;cases hsg:sgIn sgL (hdW ws) with
 | none =>
  rw [hsg] at hs hb;have hs:sg0=s:=hs;have hb:false=b:=hb;subst hs hb;have HR:=aa (HN.out (tkS_none hsg));have Z4:=aa (ay (ay (ay (ay BL1.out 0 (.int .i64 0) (by simp)) 1 (.int .i64 0) (by simp)) 2 (.bool false) (by simp)) 3 (.bool false) (by simp));have ZB:=aa ((((BB.out.setCell (p:=⟨g4,0,none⟩) (Nat.le_refl _) (.int .i64 0)).setCell (p:=⟨g4,1,none⟩) (Nat.le_refl _) (.int .i64 0)).setCell (p:=⟨g4,2,none⟩) (Nat.le_refl _) (.bool false)).setCell (p:=⟨g4,3,none⟩) (Nat.le_refl _) (.bool false));clear hsg HN HY q0 q1 q2 q3 hgs hbw;have Z5:=aa (show BlkAt _ g4 [.int .i64 0,.int .i64 0,.bool false,.bool false] by simpa using Z4.out);clear Z4;go_wp2_with fail;generalize ((((w1.setCell ⟨g4,0,none⟩ (.int .i64 0)).setCell ⟨g4,1,none⟩ (.int .i64 0)).setCell ⟨g4,2,none⟩ (.bool false)).setCell ⟨g4,3,none⟩ (.bool false))=wz at *;have z0:=Z5.out.c 0 (by simp);have z1:=Z5.out.c 1 (by simp);have z2:=Z5.out.c 2 (by simp);have z3:=Z5.out.c 3 (by simp);simp only [List.getElem?_cons_zero,List.getElem?_cons_succ] at z0 z1 z2 z3;exact bodyPost_ret (v:=.tuple #[.agg #[.int .i64 0,.int .i64 0,.bool false,.bool false],.bool false]) (by simp [results,Tryz.results166,go_sem,z0,z1,z2,z3]) rfl (HR.out _ (KBH.out _ ZB.out) (bz H.out (by rw [hgr];exact ZB.out)))
 | some s0 =>
  rw [hsg] at hs hb;have hs:s0=s:=hs;have hb:true=b:=hb;subst hs hb;obtain ⟨x,r,hws,hts⟩:=tkS_some (rank:=rank) hsg;subst hws
  by_cases hrk:s0.rank=rank
  ·rw [if_pos hrk] at hts;have HR:=aa (HY.out s0 r hts);have hne2:(s0.rank != rank)=false:=by simp [hrk]
   have SK:=aa (kx gp gm wv x r d e w1 P1.out);have hgs4:gp < g4:=by omega
   have hgsp:gp < gs:=by have:=BA.out.size;omega
   clear hsg HN HY hts hgs hbw hrk;go_wp2_with fail;refine SK.out.mono ?_;rintro r9 w2 ⟨rfl,hk,wv',hp⟩;have BS:=aa (aI HBL.out hk (fun e9=>by omega));have BG:=aa (aI BL1.out hk (fun e9=>by omega));have Z5:=aa (show BlkAt _ g4 [.int .i64 s0.rank,.int .i64 s0.op,.bool s0.turned,.bool s0.denied] by simpa using ay (ay (ay (ay BG.out 0 (.int .i64 s0.rank) (by simp)) 1 (.int .i64 s0.op) (by simp)) 2 (.bool s0.turned) (by simp)) 3 (.bool s0.denied) (by simp));have K9:Hid (KeptB w2 ((((w2.setCell ⟨g4,0,none⟩ (.int .i64 s0.rank)).setCell ⟨g4,1,none⟩ (.int .i64 s0.op)).setCell ⟨g4,2,none⟩ (.bool s0.turned)).setCell ⟨g4,3,none⟩ (.bool s0.denied)) (fun q=>q=g4)):=ah (ah (ah (ah (ae (bad:=fun q=>q=g4) (Below.refl w2.heap.size w2)) rfl 0 _) rfl 1 _) rfl 2 _) rfl 3 _;have KW:Hid (KeptB w ((((w2.setCell ⟨g4,0,none⟩ (.int .i64 s0.rank)).setCell ⟨g4,1,none⟩ (.int .i64 s0.op)).setCell ⟨g4,2,none⟩ (.bool s0.turned)).setCell ⟨g4,3,none⟩ (.bool s0.denied)) (fun q=>q=gp)):=by
    have k1:=af (KBH.out _ BB.out) hk;exact ⟨k1.b0.trans K9.out.b0,fun k hk9 hn=>(K9.out.block k (Nat.lt_of_lt_of_le hk9 k1.b0.size) (fun e9=>by omega)).trans (k1.block k hk9 hn)⟩
   have PZ:=aa (ow hp K9.out (fun k e9=>by omega));clear c0 c1 c2 c3 q0 q1 q2 q3 f0 f1 f2 f3;have f0:=BG.out.fz 0;have f1:=BG.out.fz 1;have f2:=BG.out.fz 2;have f3:=BG.out.fz 3;have c0:=BG.out.c 0 (by simp);have c1:=BG.out.c 1 (by simp);have c2:=BG.out.c 2 (by simp);have c3:=BG.out.c 3 (by simp);have q0:=BS.out.c 0 (by simp);have q1:=BS.out.c 1 (by simp);have q2:=BS.out.c 2 (by simp);have q3:=BS.out.c 3 (by simp);simp only [List.getElem?_cons_zero,List.getElem?_cons_succ] at c0 c1 c2 c3 q0 q1 q2 q3;clear hk hp SK;go_wp2_with fail;generalize ((((w2.setCell ⟨g4,0,none⟩ (.int .i64 s0.rank)).setCell ⟨g4,1,none⟩ (.int .i64 s0.op)).setCell ⟨g4,2,none⟩ (.bool s0.turned)).setCell ⟨g4,3,none⟩ (.bool s0.denied))=wz at *;have z0:=Z5.out.c 0 (by simp);have z1:=Z5.out.c 1 (by simp);have z2:=Z5.out.c 2 (by simp);have z3:=Z5.out.c 3 (by simp);simp only [List.getElem?_cons_zero,List.getElem?_cons_succ] at z0 z1 z2 z3;exact bodyPost_ret (v:=.tuple #[.agg #[.int .i64 s0.rank,.int .i64 s0.op,.bool s0.turned,.bool s0.denied],.bool true]) (by simp [results,Tryz.results166,go_sem,z0,z1,z2,z3]) rfl (HR.out _ _ KW.out PZ.out)
  ·rw [if_neg hrk] at hts;have HR:=aa (HN.out hts);have hne2:(s0.rank != rank)=true:=by simp [hrk]
   have ZB:=aa ((((BB.out.setCell (p:=⟨g4,0,none⟩) (Nat.le_refl _) (.int .i64 0)).setCell (p:=⟨g4,1,none⟩) (Nat.le_refl _) (.int .i64 0)).setCell (p:=⟨g4,2,none⟩) (Nat.le_refl _) (.bool false)).setCell (p:=⟨g4,3,none⟩) (Nat.le_refl _) (.bool false));have Z5:=aa (show BlkAt _ g4 [.int .i64 0,.int .i64 0,.bool false,.bool false] by simpa using ay (ay (ay (ay BL1.out 0 (.int .i64 0) (by simp)) 1 (.int .i64 0) (by simp)) 2 (.bool false) (by simp)) 3 (.bool false) (by simp));clear hsg HN HY hts hgs hbw hrk;go_wp2_with fail;generalize ((((w1.setCell ⟨g4,0,none⟩ (.int .i64 0)).setCell ⟨g4,1,none⟩ (.int .i64 0)).setCell ⟨g4,2,none⟩ (.bool false)).setCell ⟨g4,3,none⟩ (.bool false))=wz at *;have z0:=Z5.out.c 0 (by simp);have z1:=Z5.out.c 1 (by simp);have z2:=Z5.out.c 2 (by simp);have z3:=Z5.out.c 3 (by simp);simp only [List.getElem?_cons_zero,List.getElem?_cons_succ] at z0 z1 z2 z3;exact bodyPost_ret (v:=.tuple #[.agg #[.int .i64 0,.int .i64 0,.bool false,.bool false],.bool false]) (by simp [results,Tryz.results166,go_sem,z0,z1,z2,z3]) rfl (HR.out _ (KBH.out _ ZB.out) (bz H.out (by rw [hgr];exact ZB.out)))
theorem bj (gp gm:Nat) (rank:Int) (wv:Value) (ws:Ws) (d e:Int) (w:World) (h:PS w gp gm wv ws d e) :
  Calls Tryz.prog 166 #[.pointer (some ⟨gp,0,none⟩),.int .i64 rank] w fun r w'=>dJ w w' gp gm rank wv ws d e r:=by
 refine takeSign_gen _ gp gm rank wv ws d e w h (fun hn w' hk hp=>?_) (fun s ws1 hs w' wv' hk hp=>?_)
 ·unfold dJ;rw [hn];exact ⟨rfl,hk,hp⟩
 ·unfold dJ;rw [hs];exact ⟨rfl,hk,wv',hp⟩
def WfN (l:List Nd):Prop:=0 < l.length∧l.length≤40∧∃ bs,kh l bs∧bs[l.length - 1]?=some 0
theorem po {l:List Nd} (h:WfN l):∀ n∈l,Mvb n:=by
 obtain ⟨-,h1,bs,hg,-⟩:=h;exact good_mvb hg (by omega)
theorem wf_jn2 {op:Int} {l m z:List Nd} (ho:ar op=2) (hl:WfN l) (hm:WfN m) (h:jn2 op l m=.ok z):z=gD op l m∧WfN z:=by
 unfold jn2 at h
 by_cases h4:40 < l.length+m.length+1
 ·rw [if_pos h4] at h;cases h
 ·rw [if_neg h4] at h;cases h;obtain ⟨a0,a1,bl,hg,hb⟩:=hl;obtain ⟨c0,c1,bm,hg2,hb2⟩:=hm;have hlen:(gD op l m).length=l.length+m.length+1:=by simp [gD];omega
  refine ⟨rfl,by omega,by omega,_,good_joinL hg hg2 a0 c0 hb hb2 ho,?_⟩;have h9:(bl++bm.map (·+l.length)).length=l.length+m.length:=by simp [hg.1,hg2.1]
  rw [hlen,show l.length+m.length+1 - 1=l.length+m.length from by omega,← h9,List.getElem?_append_right (Nat.le_refl _)]
  simp
theorem wf_jn1 {op:Int} {l z:List Nd} (ho:ar op=1) (hl:WfN l) (h:jn1 op l=.ok z):z=fF op l∧WfN z:=by
 unfold jn1 at h
 by_cases h4:40 < l.length+1
 ·rw [if_pos h4] at h;cases h
 ·rw [if_neg h4] at h;cases h;obtain ⟨a0,a1,bl,hg,hb⟩:=hl;have hlen:(fF op l).length=l.length+1:=by simp [fF]
  refine ⟨rfl,by omega,by omega,_,good_join1 hg a0 hb ho,?_⟩;rw [hlen,show l.length+1 - 1=bl.length from by rw [hg.1];omega,List.getElem?_append_right (Nat.le_refl _)]
  simp
def isSl:Value→Bool
 | .slice _ _ _=>true
 | _=>false
structure ErC (c:Int) (v:Value):Prop where
 ne:c≠0
 sl:isSl v=true
theorem bR {v:Value} (h:isSl v=true):∃ a n c,v=.slice a n c:=by
 cases v <;> simp [isSl] at h
 exact ⟨_,_,_,rfl⟩
def NdsR (w:World) (B:Nat) (v:Value) (l:List Nd):Prop:=w.ownsRow B 153 6 v l.length (eT l)∧WfN l
theorem NdsR.sl {w:World} {B:Nat} {v:Value} {l:List Nd} (h:NdsR w B v l):isSl v=true:=by
 obtain ⟨ao,cap,rfl⟩:=ax h.1
 rfl
theorem aU {w w':World} {B:Nat} {v:Value} {l:List Nd} {bad:Nat→Prop} (h:NdsR w B v l) (hk:KeptB w w' bad) (hb:∀ k,bad k→k < B):NdsR w' B v l :=
 ⟨bg h.1 hk (fun k e h9=>by have:=hb k h9;have:=(aJ h.1 k e).1;omega),h.2⟩
def PRR (w w':World) (gp gm:Nat) (d:Int) (r:PR) (e:Ending):Prop:=KeptB w w' (fun q=>q=gp)∧match r with
 | .ok p=>∃ v wv',e=.returned v∧NdsR w' (gp+1) v p.1∧PS w' gp gm wv' p.2 d 0
 | .error c=>∃ v wv',e=.returned v∧ErC c v∧PS w' gp gm wv' [] d c
theorem dR (gp gm:Nat) (op:Int) (u v wv:Value) (ws:Ws) (d e:Int) (he:e≠0) (w:World) (h:PS w gp gm wv ws d e) :
  Calls Tryz.prog 179 #[.pointer (some ⟨gp,0,none⟩),.int .i64 op,u,v] w fun r w'=>r=.returned (.slice none 0 0)∧Below w.heap.size w w':=by
 have c3:w.cell? ⟨gp,3,none⟩=some (errC e):=h.bd.c 3 (by simp);have ec:errC e=.iface 93 (.int .i64 e):=by unfold errC;rw [if_neg he]
 rw [ec] at c3;clear h he ec
 go_enter Tryz.func179,Tryz.ntmps179
 go_wp2_with fail
 go_ret
 exact ⟨rfl,Below.refl _ _⟩
theorem oW (R:Ending→World→Prop) (gp gm:Nat) (op:Int) (u v wv:Value) (ws:Ws) (d:Int) (w:World) (h:PS w gp gm wv ws d 0) (z:List Nd) (hz:z.length≤200)
  (HJ:Calls Tryz.prog 190 #[.int .i64 op,u,v] w fun e w'=>∃ u',e=.returned u'∧w'.ownsRow w.heap.size 153 6 u' z.length (eT z)∧Below w.heap.size w w')
  (hN:40 < z.length→∀ w',KeptB w w' (fun q=>q=gp)→PS w' gp gm (.slice none 0 0) [] d 2→R (.returned (.slice none 0 0)) w')
  (hY:z.length≤40→∀ u' w',KeptB w w' (fun q=>q=gp)→PS w' gp gm wv ws d 0→w'.ownsRow (gp+1) 153 6 u' z.length (eT z)→R (.returned u') w') :
  Calls Tryz.prog 179 #[.pointer (some ⟨gp,0,none⟩),.int .i64 op,u,v] w R:=by
 have c3:w.cell? ⟨gp,3,none⟩=some .nilIface:=h.bd.c 3 (by simp);have H:=aa h;have HN:=aa hN;have HY:=aa hY;have HJJ:=aa HJ;have hlt:=h.bd.lt;clear h hN hY HJ
 go_enter Tryz.func179,Tryz.ntmps179
 go_wp2_with fail;refine HJJ.out.mono ?_;rintro e w1 ⟨u',rfl,ho,hb⟩;obtain ⟨ao,cap,rfl⟩:=ax ho;have HO:=aa (aN ho (show gp+1≤w.heap.size by omega));have HB:=aa hb;have H1:=aa (bz H.out hb);clear ho hb HJJ
 by_cases h4:40 < z.length
 ·have d4:decide (40 < (z.length:Int))=true:=by simp;omega
  have FL:=aa (fL gp gm 2 (by decide) wv ws d 0 w1 H1.out);have HN2:=aa (HN.out h4);clear h4;go_wp2_with fail;refine FL.out.mono ?_;rintro e w2 ⟨rfl,hk,hp⟩;have HK:=aa hk;have HP:=aa hp;clear hk hp FL;go_wp2_with fail;exact HN2.out _ (af (ae HB.out) HK.out) HP.out
 ·have d4:decide (40 < (z.length:Int))=false:=by simp;omega
  have HY2:=aa (HY.out (by omega));clear h4;go_wp2_with fail;exact HY2.out _ _ (ae HB.out) H1.out HO.out
theorem mI (w:World):bT w (.slice none 0 0) 6 ([]:List Nd).length (eT []):=⟨rfl,.inl ⟨⟨_,_,rfl⟩,rfl⟩⟩
theorem jw (gp gm:Nat) (op:Int) (ho:ar op=1) (u wv:Value) (l:List Nd) (ws:Ws) (d:Int) (w:World) (h:PS w gp gm wv ws d 0) (hu:NdsR w (gp+1) u l) :
  Calls Tryz.prog 179 #[.pointer (some ⟨gp,0,none⟩),.int .i64 op,u,.slice none 0 0] w fun r w'=>PRR w w' gp gm d (wth ws (jn1 op l)) r:=by
 have hl:=hu.2.2.1;have hlen:(fF op l).length=l.length+1:=by simp [fF]
 refine oW _ gp gm op u (.slice none 0 0) wv ws d w h (fF op l) (by omega) (join_one op l [] u (.slice none 0 0) w (by omega) (aE hu.1) (mI w) (po hu.2) ho) (fun h4 w' hk hp=>?_) (fun h4 u' w' hk hp ho2=>?_)
 ·have e:jn1 op l=.error 2:=by unfold jn1;rw [if_pos (by omega)]
  rw [e];exact ⟨hk,_,_,rfl,⟨by decide,rfl⟩,hp⟩
 ·have e:jn1 op l=.ok (fF op l):=by unfold jn1;rw [if_neg (by omega)]
  have hw:=(wf_jn1 ho hu.2 e).2;rw [e];exact ⟨hk,_,_,rfl,⟨ho2,hw⟩,hp⟩
theorem gA (gp gm:Nat) (op:Int) (ho:ar op=2) (u v wv:Value) (l m:List Nd) (ws:Ws) (d:Int) (w:World) (h:PS w gp gm wv ws d 0) (hu:NdsR w (gp+1) u l) (hv:NdsR w (gp+1) v m) :
  Calls Tryz.prog 179 #[.pointer (some ⟨gp,0,none⟩),.int .i64 op,u,v] w fun r w'=>PRR w w' gp gm d (wth ws (jn2 op l m)) r:=by
 have hl:=hu.2.2.1;have hm:=hv.2.2.1;have hlen:(gD op l m).length=l.length+m.length+1:=by simp [gD];omega
 refine oW _ gp gm op u v wv ws d w h (gD op l m) (by omega) (join_two op l m u v w (by omega) (by omega) (aE hu.1) (aE hv.1) (po hu.2) (po hv.2) ho) (fun h4 w' hk hp=>?_) (fun h4 u' w' hk hp ho2=>?_)
 ·have e:jn2 op l m=.error 2:=by unfold jn2;rw [if_pos (by omega)]
  rw [e];exact ⟨hk,_,_,rfl,⟨by decide,rfl⟩,hp⟩
 ·have e:jn2 op l m=.ok (gD op l m):=by unfold jn2;rw [if_neg (by omega)]
  have hw:=(wf_jn2 ho hu.2 hv.2 e).2;rw [e];exact ⟨hk,_,_,rfl,⟨ho2,hw⟩,hp⟩
theorem kP {w w1 w2:World} {gp:Nat} (h:Below w.heap.size w w1) (k:KeptB w1 w2 (fun q=>q=gp)):KeptB w w2 (fun q=>q=gp):=af (ae h) k
def qy (w w':World) (gp gm:Nat) (d e:Int) (r:Ending):Prop:=KeptB w w' (fun q=>q=gp)∧∃ v wv',r=.returned v∧isSl v=true∧PS w' gp gm wv' [] d e
theorem joinBy_err00 (gp gm:Nat) (rank op:Int) (u v wv:Value) (ws:Ws) (d e:Int) (he:e≠0) (w:World) (h:PS w gp gm wv ws d e) :
  Calls Tryz.prog 167 #[.pointer (some ⟨gp,0,none⟩),.agg #[.int .i64 rank,.int .i64 op,.bool false,.bool false],u,v] w fun r w'=>qy w w' gp gm d e r:=by
 have h0:=h.e0 he;subst h0;have BA:=aa (aj w (.cells #[.int .i64 rank,.int .i64 op,.bool false,.bool false] 176));have H0:=aa (bz h BA.out);have J1:=aa (dR gp gm op u v wv [] d e he _ H0.out);have HE:=aa he;clear h he
 go_enter Tryz.func167,Tryz.ntmps167
 go_wp2_with fail;refine J1.out.mono ?_;rintro r w1 ⟨rfl,hb⟩;have B1:=aa (BA.out.trans (hb.mono BA.out.size));have H1:=aa (bz H0.out hb);obtain ⟨jc,jf⟩:=bcell hb;clear hb J1;go_wp2_with fail
 go_ret
 exact ⟨ae B1.out,_,wv,rfl,rfl,H1.out⟩
theorem joinBy_ok00 (gp gm:Nat) (rank op:Int) (ho:ar op=2) (u v wv:Value) (l m:List Nd) (ws:Ws) (d:Int) (w:World) (h:PS w gp gm wv ws d 0) (hu:NdsR w (gp+1) u l) (hv:NdsR w (gp+1) v m) :
  Calls Tryz.prog 167 #[.pointer (some ⟨gp,0,none⟩),.agg #[.int .i64 rank,.int .i64 op,.bool false,.bool false],u,v] w fun r w'=>PRR w w' gp gm d (wth ws (jnS ⟨rank,op,false,false⟩ l m)) r:=by
 have BA:=aa (aj w (.cells #[.int .i64 rank,.int .i64 op,.bool false,.bool false] 176));have H0:=aa (bz h BA.out);have kf:KeptB w (w.alloc (.cells #[.int .i64 rank,.int .i64 op,.bool false,.bool false] 176)) (fun _=>False):=ae BA.out;have J1:=aa (gA gp gm op ho u v wv l m ws d _ H0.out (aU hu kf (fun k e=>e.elim)) (aU hv kf (fun k e=>e.elim)));have EJ:Hid (jnS ⟨rank,op,false,false⟩ l m=jnD false (jn2 op l m)):=rfl;have hlt:=h.bd.lt;rw [EJ.out];clear h hu hv kf EJ;generalize hj:jn2 op l m=J at *;clear hj
 go_enter Tryz.func167,Tryz.ntmps167
 go_wp2_with fail;refine J1.out.mono ?_;rintro r w1 ⟨hk,hr⟩;have K1:=aa (kP BA.out hk);have c3:w1.cell? ⟨w.heap.size,3,none⟩=some (.bool false):=by
  rw [aB hk 3 (by simp) (by omega)]
  simp
 clear J1 hk;cases J with
 | error c9 =>
  obtain ⟨v',wv',rfl,hc,hp⟩:=hr;have HP:=aa hp;have HC:=aa hc;clear hp hc;go_wp2_with fail
  go_ret
  exact ⟨K1.out,_,wv',rfl,HC.out,HP.out⟩
 | ok z =>
  obtain ⟨v',wv',rfl,hn,hp⟩:=hr;have HP:=aa hp;have HN:=aa hn;clear hp hn;go_wp2_with fail
  go_ret
  exact ⟨K1.out,_,wv',rfl,HN.out,HP.out⟩
theorem joinBy_err01 (gp gm:Nat) (rank op:Int) (u v wv:Value) (ws:Ws) (d e:Int) (he:e≠0) (w:World) (h:PS w gp gm wv ws d e) :
  Calls Tryz.prog 167 #[.pointer (some ⟨gp,0,none⟩),.agg #[.int .i64 rank,.int .i64 op,.bool false,.bool true],u,v] w fun r w'=>qy w w' gp gm d e r:=by
 have h0:=h.e0 he;subst h0;have BA:=aa (aj w (.cells #[.int .i64 rank,.int .i64 op,.bool false,.bool true] 176));have H0:=aa (bz h BA.out);have J1:=aa (dR gp gm op u v wv [] d e he _ H0.out);have HE:=aa he;clear h he
 go_enter Tryz.func167,Tryz.ntmps167
 go_wp2_with fail;refine J1.out.mono ?_;rintro r w1 ⟨rfl,hb⟩;have B1:=aa (BA.out.trans (hb.mono BA.out.size));have H1:=aa (bz H0.out hb);obtain ⟨jc,jf⟩:=bcell hb;clear hb J1;have J2:=aa (dR gp gm 4 (.slice none 0 0) (.slice none 0 0) wv [] d e HE.out w1 H1.out);go_wp2_with fail;refine J2.out.mono ?_;rintro r w2 ⟨rfl,hb⟩;have B2:=aa (B1.out.trans (hb.mono B1.out.size));have H2:=aa (bz H1.out hb);clear hb J2;go_wp2_with fail
 go_ret
 exact ⟨ae B2.out,_,wv,rfl,rfl,H2.out⟩
theorem joinBy_ok01 (gp gm:Nat) (rank op:Int) (ho:ar op=2) (u v wv:Value) (l m:List Nd) (ws:Ws) (d:Int) (w:World) (h:PS w gp gm wv ws d 0) (hu:NdsR w (gp+1) u l) (hv:NdsR w (gp+1) v m) :
  Calls Tryz.prog 167 #[.pointer (some ⟨gp,0,none⟩),.agg #[.int .i64 rank,.int .i64 op,.bool false,.bool true],u,v] w fun r w'=>PRR w w' gp gm d (wth ws (jnS ⟨rank,op,false,true⟩ l m)) r:=by
 have BA:=aa (aj w (.cells #[.int .i64 rank,.int .i64 op,.bool false,.bool true] 176));have H0:=aa (bz h BA.out);have kf:KeptB w (w.alloc (.cells #[.int .i64 rank,.int .i64 op,.bool false,.bool true] 176)) (fun _=>False):=ae BA.out;have J1:=aa (gA gp gm op ho u v wv l m ws d _ H0.out (aU hu kf (fun k e=>e.elim)) (aU hv kf (fun k e=>e.elim)));have EJ:Hid (jnS ⟨rank,op,false,true⟩ l m=jnD true (jn2 op l m)):=rfl;have hlt:=h.bd.lt;rw [EJ.out];clear h hu hv kf EJ;generalize hj:jn2 op l m=J at *;clear hj
 go_enter Tryz.func167,Tryz.ntmps167
 go_wp2_with fail;refine J1.out.mono ?_;rintro r w1 ⟨hk,hr⟩;have K1:=aa (kP BA.out hk);have c3:w1.cell? ⟨w.heap.size,3,none⟩=some (.bool true):=by
  rw [aB hk 3 (by simp) (by omega)]
  simp
 clear J1 hk;cases J with
 | error c9 =>
  obtain ⟨v',wv',rfl,hc,hp⟩:=hr;have HP:=aa hp;have HC:=aa hc;clear hp hc;have J2:=aa (dR gp gm 4 v' (.slice none 0 0) wv' [] d c9 HC.out.1 w1 HP.out);go_wp2_with fail;refine J2.out.mono ?_;rintro r w2 ⟨rfl,hb⟩;have K2:=aa (af K1.out (ae (bad:=fun q=>q=gp) hb));have H2:=aa (bz HP.out hb);clear hb J2;go_wp2_with fail
  go_ret
  exact ⟨K2.out,_,wv',rfl,⟨HC.out.1,rfl⟩,H2.out⟩
 | ok z =>
  obtain ⟨v',wv',rfl,hn,hp⟩:=hr;have HP:=aa hp;have HN:=aa hn;clear hp hn;have J2:=aa (jw gp gm 4 (by decide) v' wv' z ws d w1 HP.out HN.out);go_wp2_with fail;refine J2.out.mono ?_;rintro r w2 ⟨hk,hr⟩;have K2:=aa (af K1.out hk);have ED:Hid (jnD true (.ok z)=jn1 4 z):=rfl;clear J2 hk;cases hj:jn1 4 z with
  | error c9 =>
   rw [hj] at hr;obtain ⟨v2,wv2,rfl,hc,hp⟩:=hr;have HP2:=aa hp;have HC:=aa hc;have HJ:=aa hj;clear hj hp hc;go_wp2_with fail
   go_ret
   rw [ED.out,HJ.out];exact ⟨K2.out,_,wv2,rfl,HC.out,HP2.out⟩
  | ok z2 =>
   rw [hj] at hr;obtain ⟨v2,wv2,rfl,hn,hp⟩:=hr;have HP2:=aa hp;have HN2:=aa hn;have HJ:=aa hj;clear hj hp hn;go_wp2_with fail
   go_ret
   rw [ED.out,HJ.out];exact ⟨K2.out,_,wv2,rfl,HN2.out,HP2.out⟩
theorem joinBy_err10 (gp gm:Nat) (rank op:Int) (u v wv:Value) (ws:Ws) (d e:Int) (he:e≠0) (w:World) (h:PS w gp gm wv ws d e) :
  Calls Tryz.prog 167 #[.pointer (some ⟨gp,0,none⟩),.agg #[.int .i64 rank,.int .i64 op,.bool true,.bool false],u,v] w fun r w'=>qy w w' gp gm d e r:=by
 have h0:=h.e0 he;subst h0;have BA:=aa (aj w (.cells #[.int .i64 rank,.int .i64 op,.bool true,.bool false] 176));have H0:=aa (bz h BA.out);have J1:=aa (dR gp gm op v u wv [] d e he _ H0.out);have HE:=aa he;clear h he
 go_enter Tryz.func167,Tryz.ntmps167
 go_wp2_with fail;refine J1.out.mono ?_;rintro r w1 ⟨rfl,hb⟩;have B1:=aa (BA.out.trans (hb.mono BA.out.size));have H1:=aa (bz H0.out hb);obtain ⟨jc,jf⟩:=bcell hb;clear hb J1;go_wp2_with fail
 go_ret
 exact ⟨ae B1.out,_,wv,rfl,rfl,H1.out⟩
theorem joinBy_ok10 (gp gm:Nat) (rank op:Int) (ho:ar op=2) (u v wv:Value) (l m:List Nd) (ws:Ws) (d:Int) (w:World) (h:PS w gp gm wv ws d 0) (hu:NdsR w (gp+1) u l) (hv:NdsR w (gp+1) v m) :
  Calls Tryz.prog 167 #[.pointer (some ⟨gp,0,none⟩),.agg #[.int .i64 rank,.int .i64 op,.bool true,.bool false],u,v] w fun r w'=>PRR w w' gp gm d (wth ws (jnS ⟨rank,op,true,false⟩ l m)) r:=by
 have BA:=aa (aj w (.cells #[.int .i64 rank,.int .i64 op,.bool true,.bool false] 176));have H0:=aa (bz h BA.out);have kf:KeptB w (w.alloc (.cells #[.int .i64 rank,.int .i64 op,.bool true,.bool false] 176)) (fun _=>False):=ae BA.out;have J1:=aa (gA gp gm op ho v u wv m l ws d _ H0.out (aU hv kf (fun k e=>e.elim)) (aU hu kf (fun k e=>e.elim)));have EJ:Hid (jnS ⟨rank,op,true,false⟩ l m=jnD false (jn2 op m l)):=rfl;have hlt:=h.bd.lt;rw [EJ.out];clear h hu hv kf EJ;generalize hj:jn2 op m l=J at *;clear hj
 go_enter Tryz.func167,Tryz.ntmps167
 go_wp2_with fail;refine J1.out.mono ?_;rintro r w1 ⟨hk,hr⟩;have K1:=aa (kP BA.out hk);have c3:w1.cell? ⟨w.heap.size,3,none⟩=some (.bool false):=by
  rw [aB hk 3 (by simp) (by omega)]
  simp
 clear J1 hk;cases J with
 | error c9 =>
  obtain ⟨v',wv',rfl,hc,hp⟩:=hr;have HP:=aa hp;have HC:=aa hc;clear hp hc;go_wp2_with fail
  go_ret
  exact ⟨K1.out,_,wv',rfl,HC.out,HP.out⟩
 | ok z =>
  obtain ⟨v',wv',rfl,hn,hp⟩:=hr;have HP:=aa hp;have HN:=aa hn;clear hp hn;go_wp2_with fail
  go_ret
  exact ⟨K1.out,_,wv',rfl,HN.out,HP.out⟩
theorem joinBy_err11 (gp gm:Nat) (rank op:Int) (u v wv:Value) (ws:Ws) (d e:Int) (he:e≠0) (w:World) (h:PS w gp gm wv ws d e) :
  Calls Tryz.prog 167 #[.pointer (some ⟨gp,0,none⟩),.agg #[.int .i64 rank,.int .i64 op,.bool true,.bool true],u,v] w fun r w'=>qy w w' gp gm d e r:=by
 have h0:=h.e0 he;subst h0;have BA:=aa (aj w (.cells #[.int .i64 rank,.int .i64 op,.bool true,.bool true] 176));have H0:=aa (bz h BA.out);have J1:=aa (dR gp gm op v u wv [] d e he _ H0.out);have HE:=aa he;clear h he
 go_enter Tryz.func167,Tryz.ntmps167
 go_wp2_with fail;refine J1.out.mono ?_;rintro r w1 ⟨rfl,hb⟩;have B1:=aa (BA.out.trans (hb.mono BA.out.size));have H1:=aa (bz H0.out hb);obtain ⟨jc,jf⟩:=bcell hb;clear hb J1;have J2:=aa (dR gp gm 4 (.slice none 0 0) (.slice none 0 0) wv [] d e HE.out w1 H1.out);go_wp2_with fail;refine J2.out.mono ?_;rintro r w2 ⟨rfl,hb⟩;have B2:=aa (B1.out.trans (hb.mono B1.out.size));have H2:=aa (bz H1.out hb);clear hb J2;go_wp2_with fail
 go_ret
 exact ⟨ae B2.out,_,wv,rfl,rfl,H2.out⟩
theorem joinBy_ok11 (gp gm:Nat) (rank op:Int) (ho:ar op=2) (u v wv:Value) (l m:List Nd) (ws:Ws) (d:Int) (w:World) (h:PS w gp gm wv ws d 0) (hu:NdsR w (gp+1) u l) (hv:NdsR w (gp+1) v m) :
  Calls Tryz.prog 167 #[.pointer (some ⟨gp,0,none⟩),.agg #[.int .i64 rank,.int .i64 op,.bool true,.bool true],u,v] w fun r w'=>PRR w w' gp gm d (wth ws (jnS ⟨rank,op,true,true⟩ l m)) r:=by
 have BA:=aa (aj w (.cells #[.int .i64 rank,.int .i64 op,.bool true,.bool true] 176));have H0:=aa (bz h BA.out);have kf:KeptB w (w.alloc (.cells #[.int .i64 rank,.int .i64 op,.bool true,.bool true] 176)) (fun _=>False):=ae BA.out;have J1:=aa (gA gp gm op ho v u wv m l ws d _ H0.out (aU hv kf (fun k e=>e.elim)) (aU hu kf (fun k e=>e.elim)));have EJ:Hid (jnS ⟨rank,op,true,true⟩ l m=jnD true (jn2 op m l)):=rfl;have hlt:=h.bd.lt;rw [EJ.out];clear h hu hv kf EJ;generalize hj:jn2 op m l=J at *;clear hj
 go_enter Tryz.func167,Tryz.ntmps167
 go_wp2_with fail;refine J1.out.mono ?_;rintro r w1 ⟨hk,hr⟩;have K1:=aa (kP BA.out hk);have c3:w1.cell? ⟨w.heap.size,3,none⟩=some (.bool true):=by
  rw [aB hk 3 (by simp) (by omega)]
  simp
 clear J1 hk;cases J with
 | error c9 =>
  obtain ⟨v',wv',rfl,hc,hp⟩:=hr;have HP:=aa hp;have HC:=aa hc;clear hp hc;have J2:=aa (dR gp gm 4 v' (.slice none 0 0) wv' [] d c9 HC.out.1 w1 HP.out);go_wp2_with fail;refine J2.out.mono ?_;rintro r w2 ⟨rfl,hb⟩;have K2:=aa (af K1.out (ae (bad:=fun q=>q=gp) hb));have H2:=aa (bz HP.out hb);clear hb J2;go_wp2_with fail
  go_ret
  exact ⟨K2.out,_,wv',rfl,⟨HC.out.1,rfl⟩,H2.out⟩
 | ok z =>
  obtain ⟨v',wv',rfl,hn,hp⟩:=hr;have HP:=aa hp;have HN:=aa hn;clear hp hn;have J2:=aa (jw gp gm 4 (by decide) v' wv' z ws d w1 HP.out HN.out);go_wp2_with fail;refine J2.out.mono ?_;rintro r w2 ⟨hk,hr⟩;have K2:=aa (af K1.out hk);have ED:Hid (jnD true (.ok z)=jn1 4 z):=rfl;clear J2 hk;cases hj:jn1 4 z with
  | error c9 =>
   rw [hj] at hr;obtain ⟨v2,wv2,rfl,hc,hp⟩:=hr;have HP2:=aa hp;have HC:=aa hc;have HJ:=aa hj;clear hj hp hc;go_wp2_with fail
   go_ret
   rw [ED.out,HJ.out];exact ⟨K2.out,_,wv2,rfl,HC.out,HP2.out⟩
  | ok z2 =>
   rw [hj] at hr;obtain ⟨v2,wv2,rfl,hn,hp⟩:=hr;have HP2:=aa hp;have HN2:=aa hn;have HJ:=aa hj;clear hj hp hn;go_wp2_with fail
   go_ret
   rw [ED.out,HJ.out];exact ⟨K2.out,_,wv2,rfl,HN2.out,HP2.out⟩
theorem eM (gp gm:Nat) (s:Sg) (u v wv:Value) (ws:Ws) (d e:Int) (he:e≠0) (w:World) (h:PS w gp gm wv ws d e) :
  Calls Tryz.prog 167 #[.pointer (some ⟨gp,0,none⟩),sgV s,u,v] w fun r w'=>qy w w' gp gm d e r:=by
 obtain ⟨rank,op,tn,dn⟩:=s;cases tn <;> cases dn
 ·exact joinBy_err00 gp gm rank op u v wv ws d e he w h
 ·exact joinBy_err01 gp gm rank op u v wv ws d e he w h
 ·exact joinBy_err10 gp gm rank op u v wv ws d e he w h
 ·exact joinBy_err11 gp gm rank op u v wv ws d e he w h
theorem fu (gp gm:Nat) (s:Sg) (ho:ar s.op=2) (u v wv:Value) (l m:List Nd) (ws:Ws) (d:Int) (w:World) (h:PS w gp gm wv ws d 0) (hu:NdsR w (gp+1) u l) (hv:NdsR w (gp+1) v m) :
  Calls Tryz.prog 167 #[.pointer (some ⟨gp,0,none⟩),sgV s,u,v] w fun r w'=>PRR w w' gp gm d (wth ws (jnS s l m)) r:=by
 obtain ⟨rank,op,tn,dn⟩:=s;cases tn <;> cases dn
 ·exact joinBy_ok00 gp gm rank op ho u v wv l m ws d w h hu hv
 ·exact joinBy_ok01 gp gm rank op ho u v wv l m ws d w h hu hv
 ·exact joinBy_ok10 gp gm rank op ho u v wv l m ws d w h hu hv
 ·exact joinBy_ok11 gp gm rank op ho u v wv l m ws d w h hu hv
end Go.Proofs.YtcgjflamgnjhcaaGreatDoor

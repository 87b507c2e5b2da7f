/- Own texts in one. Conditions: as named in each. -/
import Derived.Test.YtcgjflamgnjhcaaGreatDoorChkQJ
import Derived.Test.YtcgjflamgnjhcaaGreatDoorWinPureJ
import Derived.Test.YtcgjflamgnjhcaaGreatDoorKinJ
set_option linter.unusedVariables false
set_option linter.unusedSimpArgs false
set_option maxRecDepth 100000
set_option maxHeartbeats 8000000
namespace Go.Proofs.YtcgjflamgnjhcaaGreatDoor
open Go.ChangeShapes Go.WideShapes Go.ChangeAt Go.RowKit
theorem ew (t:List Value) (h:t.length=58):∃ f:Nat→Value,t=f 0 :: f 1 :: f 2 :: f 3 :: f 4 :: f 5 :: f 6 :: f 7 :: f 8 :: f 9 :: f 10 :: f 11 :: f 12 :: f 13 :: f 14 :: f 15 :: f 16 :: f 17 :: f 18 :: f 19 :: f 20 :: f 21 :: f 22 :: f 23 :: f 24 :: f 25 :: f 26 :: f 27 :: f 28 :: f 29 :: f 30 :: f 31 :: f 32 :: f 33 :: f 34 :: f 35 :: f 36 :: f 37 :: f 38 :: f 39 :: f 40 :: f 41 :: f 42 :: f 43 :: f 44 :: f 45 :: f 46 :: f 47 :: f 48 :: f 49 :: f 50 :: f 51 :: f 52 :: f 53 :: f 54 :: f 55 :: f 56 :: f 57 :: []∧∀ i,i < 58→t[i]?=some (f i):=by
 have e1:t=(List.range 58).map (fun i=>t.getD i undef):=by
  apply List.ext_getElem
  ·simp [h]
  ·intro i h1 h2
   simp [List.getD,h1]
 refine ⟨fun i=>t.getD i undef,?_,fun i hi=>?_⟩
 ·have e2:∀ g:Nat→Value,(List.range 58).map g=g 0 :: g 1 :: g 2 :: g 3 :: g 4 :: g 5 :: g 6 :: g 7 :: g 8 :: g 9 :: g 10 :: g 11 :: g 12 :: g 13 :: g 14 :: g 15 :: g 16 :: g 17 :: g 18 :: g 19 :: g 20 :: g 21 :: g 22 :: g 23 :: g 24 :: g 25 :: g 26 :: g 27 :: g 28 :: g 29 :: g 30 :: g 31 :: g 32 :: g 33 :: g 34 :: g 35 :: g 36 :: g 37 :: g 38 :: g 39 :: g 40 :: g 41 :: g 42 :: g 43 :: g 44 :: g 45 :: g 46 :: g 47 :: g 48 :: g 49 :: g 50 :: g 51 :: g 52 :: g 53 :: g 54 :: g 55 :: g 56 :: g 57 :: []:=fun _=>rfl
  exact e1.trans (e2 _)
 ·simp [List.getD,h,hi]
theorem take_r3 (Q:Exit→Act→World→Prop) (C3:Code) (h3:rgn 3 (Tryz.f46.body.getD .skip)=some C3) (t:List Value) (qb xb:Nat) (q:Qy) (ps:List (AgQ×Value)) (x:Ev) (ao a2 a3:Option Addr) (cap c2 c3:Nat) (ka kc upto:Int) (known:Bool) (pv:Value) (w:World) (ht:t.length=58) (k2:t[2]?=some (.int .i64 upto)) (k3:t[3]?=some (.bool known)) (k4:t[4]?=some (pv)) (k5:t[5]?=some (.pointer (some ⟨qb,0,none⟩))) (k6:t[6]?=some (.pointer (some ⟨xb,0,none⟩))) (k10:t[10]?=some (.int .i64 0))
  (BQ:BlkAt w qb [Value.slice ao ps.length cap,Value.slice a2 q.wh.length c2,Value.slice a3 q.bys.length c3,Value.int .i64 q.size,Value.int .i64 q.slide,Value.int .i64 q.delay,Value.int .i64 q.late]) (BX:BlkAt w xb [Value.int .i64 x.t,Value.int .i64 x.k1,Value.int .i64 x.k2,Value.int .i64 x.a1,Value.int .i64 x.a2,Value.int .i64 x.b1,Value.int .i64 x.b2]) (h:QyG w (.slice ao ps.length cap) (.slice a2 q.wh.length c2) (.slice a3 q.bys.length c3) q ps) (h4:ps.length≤4) (hn:QyN q) (hx:∀ p∈evX x,okV p) (hk:qq q x=(ka,kc))
  (hpan:∀ c (a:Act) o v w,Q (.panic c) (a.put o v) w→Q (.panic c) a w)
  (hQ:∀ (t':List Value) (kb:Nat) (au:Option Addr) (cu:Nat) (w':World),t'.length=58→t'[2]?=some (.int .i64 upto)→t'[3]?=some (.bool known)→t'[4]?=some (pv)→t'[5]?=some (.pointer (some ⟨qb,0,none⟩))→t'[6]?=some (.pointer (some ⟨xb,0,none⟩))→t'[10]?=some (.int .i64 0)→t'[11]?=some (.pointer (some ⟨kb,0,none⟩))→t'[12]?=some (.slice au (valsQ q x).length cu)→BlkAt w' kb [.int .i64 ka,.int .i64 kc]∧w.heap.size≤kb∧w'.ownsRow w.heap.size 41 2 (.slice au (valsQ q x).length cu) (valsQ q x).length (cB (valsQ q x))∧Below w.heap.size w w'→Q .normal { tmps:=t'.toArray,defers:=[] } w') :
  Code.wp Tryz.prog C3 Q { tmps:=t.toArray,defers:=[] } w:=by
 have HQ:=aa hQ;have HPN:=aa hpan;have dd:Below w.heap.size w ({ w with drawn:=w.drawn+1 }:World):=(Below.refl _ _).drew;have hS:=dd;have KO:Hid (∀ w',Below w.heap.size w w'→Calls Tryz.prog 87 #[.agg #[Value.slice ao ps.length cap,Value.slice a2 q.wh.length c2,Value.slice a3 q.bys.length c3,Value.int .i64 q.size,Value.int .i64 q.slide,Value.int .i64 q.delay,Value.int .i64 q.late],.agg #[Value.int .i64 x.t,Value.int .i64 x.k1,Value.int .i64 x.k2,Value.int .i64 x.a1,Value.int .i64 x.a2,Value.int .i64 x.b1,Value.int .i64 x.b2]] w' fun e w''=>e=.returned (.agg #[.int .i64 ka,.int .i64 kc])∧Below w'.heap.size w' w''):=fun w' hb=>by
  have:=keyof_q _ _ _ q ps x w' (bf h hb) hn hx
  rw [hk] at this;exact this
 have VO:Hid (∀ w',Below w.heap.size w w'→Calls Tryz.prog 88 #[.agg #[Value.slice ao ps.length cap,Value.slice a2 q.wh.length c2,Value.slice a3 q.bys.length c3,Value.int .i64 q.size,Value.int .i64 q.slide,Value.int .i64 q.delay,Value.int .i64 q.late],.agg #[Value.int .i64 x.t,Value.int .i64 x.k1,Value.int .i64 x.k2,Value.int .i64 x.a1,Value.int .i64 x.a2,Value.int .i64 x.b1,Value.int .i64 x.b2]] w' fun e w''=>∃ u,e=.returned u∧w''.ownsRow w'.heap.size 41 2 u (valsQ q x).length (cB (valsQ q x))∧Below w'.heap.size w' w''):=fun w' hb=>valsof_q _ _ _ q ps x w' (bf h hb) h4 hn hx
 obtain ⟨VS,hVS⟩:∃ VS,valsQ q x=VS:=⟨_,rfl⟩;obtain ⟨NV,hNV⟩:∃ NV,VS.length=NV:=⟨_,rfl⟩;rw [hVS,hNV] at VO;have BQ:=aa BQ;have BX:=aa BX;clear hQ hpan h dd h4 hn hx hk;obtain ⟨f,hf,hi⟩:=ew t ht;have e2:=am (hi 2 (by decide)) k2;have e3:=am (hi 3 (by decide)) k3;have e4:=am (hi 4 (by decide)) k4;have e5:=am (hi 5 (by decide)) k5;have e6:=am (hi 6 (by decide)) k6;have e10:=am (hi 10 (by decide)) k10;rw [e2,e3,e4,e5,e6,e10] at hf;clear hi ht k2 e2 k3 e3 k4 e4 k5 e5 k6 e6 k10 e10;subst hf;unfold Tryz.f46 at h3
 simp [rgn] at h3
 subst h3;refine wp_region_held (S:=fun w'=>Below w.heap.size w w') (by kernel_rfl) ?_;generalize ({ w with drawn:=w.drawn+1 }:World)=wd at *;refine HT 0 (v:=.agg #[Value.slice ao ps.length cap,Value.slice a2 q.wh.length c2,Value.slice a3 q.bys.length c3,Value.int .i64 q.size,Value.int .i64 q.slide,Value.int .i64 q.delay,Value.int .i64 q.late]) rfl HPN.out (fun wq hq=>by have K:=ai BQ.out hq BQ.out.lt;have q0:wq.cell? ⟨_,0,none⟩=some (Value.slice ao ps.length cap):=K.c 0 (by simp);have q1:wq.cell? ⟨_,1,none⟩=some (Value.slice a2 q.wh.length c2):=K.c 1 (by simp);have q2:wq.cell? ⟨_,2,none⟩=some (Value.slice a3 q.bys.length c3):=K.c 2 (by simp);have q3:wq.cell? ⟨_,3,none⟩=some (Value.int .i64 q.size):=K.c 3 (by simp);have q4:wq.cell? ⟨_,4,none⟩=some (Value.int .i64 q.slide):=K.c 4 (by simp);have q5:wq.cell? ⟨_,5,none⟩=some (Value.int .i64 q.delay):=K.c 5 (by simp);have q6:wq.cell? ⟨_,6,none⟩=some (Value.int .i64 q.late):=K.c 6 (by simp);clear K;go_simp) hS ?_;refine HT 1 (v:=.agg #[Value.int .i64 x.t,Value.int .i64 x.k1,Value.int .i64 x.k2,Value.int .i64 x.a1,Value.int .i64 x.a2,Value.int .i64 x.b1,Value.int .i64 x.b2]) rfl HPN.out (fun wq hq=>by have K:=ai BX.out hq BX.out.lt;have q0:wq.cell? ⟨_,0,none⟩=some (Value.int .i64 x.t):=K.c 0 (by simp);have q1:wq.cell? ⟨_,1,none⟩=some (Value.int .i64 x.k1):=K.c 1 (by simp);have q2:wq.cell? ⟨_,2,none⟩=some (Value.int .i64 x.k2):=K.c 2 (by simp);have q3:wq.cell? ⟨_,3,none⟩=some (Value.int .i64 x.a1):=K.c 3 (by simp);have q4:wq.cell? ⟨_,4,none⟩=some (Value.int .i64 x.a2):=K.c 4 (by simp);have q5:wq.cell? ⟨_,5,none⟩=some (Value.int .i64 x.b1):=K.c 5 (by simp);have q6:wq.cell? ⟨_,6,none⟩=some (Value.int .i64 x.b2):=K.c 6 (by simp);clear K;go_simp) hS ?_;refine HT 3 (v:=.agg #[Value.slice ao ps.length cap,Value.slice a2 q.wh.length c2,Value.slice a3 q.bys.length c3,Value.int .i64 q.size,Value.int .i64 q.slide,Value.int .i64 q.delay,Value.int .i64 q.late]) rfl HPN.out (fun wq hq=>by have K:=ai BQ.out hq BQ.out.lt;have q0:wq.cell? ⟨_,0,none⟩=some (Value.slice ao ps.length cap):=K.c 0 (by simp);have q1:wq.cell? ⟨_,1,none⟩=some (Value.slice a2 q.wh.length c2):=K.c 1 (by simp);have q2:wq.cell? ⟨_,2,none⟩=some (Value.slice a3 q.bys.length c3):=K.c 2 (by simp);have q3:wq.cell? ⟨_,3,none⟩=some (Value.int .i64 q.size):=K.c 3 (by simp);have q4:wq.cell? ⟨_,4,none⟩=some (Value.int .i64 q.slide):=K.c 4 (by simp);have q5:wq.cell? ⟨_,5,none⟩=some (Value.int .i64 q.delay):=K.c 5 (by simp);have q6:wq.cell? ⟨_,6,none⟩=some (Value.int .i64 q.late):=K.c 6 (by simp);clear K;go_simp) hS ?_;refine HT 4 (v:=.agg #[Value.int .i64 x.t,Value.int .i64 x.k1,Value.int .i64 x.k2,Value.int .i64 x.a1,Value.int .i64 x.a2,Value.int .i64 x.b1,Value.int .i64 x.b2]) rfl HPN.out (fun wq hq=>by have K:=ai BX.out hq BX.out.lt;have q0:wq.cell? ⟨_,0,none⟩=some (Value.int .i64 x.t):=K.c 0 (by simp);have q1:wq.cell? ⟨_,1,none⟩=some (Value.int .i64 x.k1):=K.c 1 (by simp);have q2:wq.cell? ⟨_,2,none⟩=some (Value.int .i64 x.k2):=K.c 2 (by simp);have q3:wq.cell? ⟨_,3,none⟩=some (Value.int .i64 x.a1):=K.c 3 (by simp);have q4:wq.cell? ⟨_,4,none⟩=some (Value.int .i64 x.a2):=K.c 4 (by simp);have q5:wq.cell? ⟨_,5,none⟩=some (Value.int .i64 x.b1):=K.c 5 (by simp);have q6:wq.cell? ⟨_,6,none⟩=some (Value.int .i64 x.b2):=K.c 6 (by simp);clear K;go_simp) hS ?_
 refine H2 2 6 rfl rfl ?_ ?_
 ·intro K' hK;go_simp;refine (KO.out _ hS).mono ?_;rintro e w1 ⟨rfl,hb⟩;have hS1:=hS.trans (hb.mono hS.size);refine hK _ _ ⟨hS1,?_⟩;clear hK hb;refine H2 5 6 rfl rfl ?_ ?_
  ·intro K' hK;go_simp;refine (VO.out _ hS1).mono ?_;rintro e w2 ⟨u,rfl,ho,hb⟩;have hS2:=hS1.trans (hb.mono hS1.size);obtain ⟨au,cu,rfl⟩:=ax ho;have HO0:=aa ho;have hlt:=fun k e=>(aJ ho k e).2
   have HLT:=aa hlt;refine hK _ _ ⟨hS2,?_⟩;clear hK hb ho hlt;refine HG 6 rfl ?_;intro K' hK;have BZ:=aa (az w2 [.int .i64 0,.int .i64 0] 41);have hgs:Hid (w.heap.size≤w2.heap.size):=hS2.size;have hS3:=hS2.alloc hS2.size (.cells #[.int .i64 0,.int .i64 0] 41);have hal:=aa (aj w2 (.cells #[.int .i64 0,.int .i64 0] 41));go_simp;refine hK _ _ ⟨hS3,?_⟩;clear hK;have HO:=aa (aN (base':=w.heap.size) (aC HO0.out hal.out (Nat.le_refl _)) hS1.size);have NE:Hid ((Value.slice au NV cu).ownBlock≠some w2.heap.size):=fun e=>by have:=HLT.out _ e;omega
   generalize hg:w2.heap.size=kb at *;have hS3':Hid (Below w.heap.size w (w2.alloc (.cells #[.int .i64 0,.int .i64 0] 41))):=hS3;generalize w2.alloc (.cells #[.int .i64 0,.int .i64 0] 41)=w3 at *;have hS3:=hS3'.out;clear hg HLT HO0 hal hS2;have f0:=BZ.out.fz 0;have f1:=BZ.out.fz 1;have z0:w3.cell? ⟨kb,0,none⟩=some (.int .i64 0):=BZ.out.c 0 (by simp);have z1:w3.cell? ⟨kb,1,none⟩=some (.int .i64 0):=BZ.out.c 1 (by simp);have B4:=aa (ay (ay BZ.out 0 (.int .i64 ka) (by simp)) 1 (.int .i64 kc) (by simp));have HO4:=aa (ownsRow_setCell_other (ownsRow_setCell_other HO.out (a:=⟨kb,0,none⟩) NE.out (.int .i64 ka)) (a:=⟨kb,1,none⟩) NE.out (.int .i64 kc));have hSz:=((hS3.setCell (p:=⟨kb,0,none⟩) hgs.out (.int .i64 ka)).setCell (p:=⟨kb,1,none⟩) hgs.out (.int .i64 kc));refine HG 7 rfl ?_;intro K' hK;go_simp;refine hK _ _ ⟨hSz,?_⟩;clear hK;refine HG 8 rfl ?_;intro K' hK;go_simp;refine hK _ _ ⟨hSz,?_⟩;clear hK;subst hNV hVS;refine wpAnyH_done (by kernel_rfl) ?_ _;exact HQ.out _ kb au cu _ rfl rfl rfl rfl rfl rfl rfl rfl rfl ⟨by simpa using B4.out,hgs.out,HO4.out,hSz⟩
  ·intro K' hK;have BZ:=aa (az w1 [.int .i64 0,.int .i64 0] 41);have hgs:Hid (w.heap.size≤w1.heap.size):=hS1.size;have hS2:=hS1.alloc hS1.size (.cells #[.int .i64 0,.int .i64 0] 41);have hal:=aa (aj w1 (.cells #[.int .i64 0,.int .i64 0] 41));go_simp;refine hK _ _ ⟨hS2,?_⟩;clear hK;generalize hg:w1.heap.size=kb at *;have hS2':Hid (Below w.heap.size w (w1.alloc (.cells #[.int .i64 0,.int .i64 0] 41))):=hS2;generalize w1.alloc (.cells #[.int .i64 0,.int .i64 0] 41)=w2 at *;have hS2:=hS2'.out;have hkb:kb < w2.heap.size:=BZ.out.lt;refine HG 5 rfl ?_;intro K' hK;go_simp;refine (VO.out _ hS2).mono ?_;rintro e w3 ⟨u,rfl,ho,hb⟩;have hS3:=hS2.trans (hb.mono hS2.size);obtain ⟨au,cu,rfl⟩:=ax ho;have HO:=aa (aN (base':=w.heap.size) ho hS2.size);have NE:Hid ((Value.slice au NV cu).ownBlock≠some kb):=fun e=>by have:=(aJ ho _ e).1;omega
   have BZ:=aa (ai BZ.out hb BZ.out.lt);refine hK _ _ ⟨hS3,?_⟩;clear hK hb ho;clear hg hal hkb;have f0:=BZ.out.fz 0;have f1:=BZ.out.fz 1;have z0:w3.cell? ⟨kb,0,none⟩=some (.int .i64 0):=BZ.out.c 0 (by simp);have z1:w3.cell? ⟨kb,1,none⟩=some (.int .i64 0):=BZ.out.c 1 (by simp);have B4:=aa (ay (ay BZ.out 0 (.int .i64 ka) (by simp)) 1 (.int .i64 kc) (by simp));have HO4:=aa (ownsRow_setCell_other (ownsRow_setCell_other HO.out (a:=⟨kb,0,none⟩) NE.out (.int .i64 ka)) (a:=⟨kb,1,none⟩) NE.out (.int .i64 kc));have hSz:=((hS3.setCell (p:=⟨kb,0,none⟩) hgs.out (.int .i64 ka)).setCell (p:=⟨kb,1,none⟩) hgs.out (.int .i64 kc));refine HG 7 rfl ?_;intro K' hK;go_simp;refine hK _ _ ⟨hSz,?_⟩;clear hK;refine HG 8 rfl ?_;intro K' hK;go_simp;refine hK _ _ ⟨hSz,?_⟩;clear hK;subst hNV hVS;refine wpAnyH_done (by kernel_rfl) ?_ _;exact HQ.out _ kb au cu _ rfl rfl rfl rfl rfl rfl rfl rfl rfl ⟨by simpa using B4.out,hgs.out,HO4.out,hSz⟩
 ·intro K' hK;have BZ:=aa (az wd [.int .i64 0,.int .i64 0] 41);have hgs:Hid (w.heap.size≤wd.heap.size):=hS.size;have hS1:=hS.alloc hS.size (.cells #[.int .i64 0,.int .i64 0] 41);have hal:=aa (aj wd (.cells #[.int .i64 0,.int .i64 0] 41));go_simp;refine hK _ _ ⟨hS1,?_⟩;clear hK;generalize hg:wd.heap.size=kb at *;have hS1':Hid (Below w.heap.size w (wd.alloc (.cells #[.int .i64 0,.int .i64 0] 41))):=hS1;generalize wd.alloc (.cells #[.int .i64 0,.int .i64 0] 41)=w1 at *;have hS1:=hS1'.out;have hkb:kb < w1.heap.size:=BZ.out.lt;refine HG 2 rfl ?_;intro K' hK;go_simp;refine (KO.out _ hS1).mono ?_;rintro e w2 ⟨rfl,hb⟩;have hS2:=hS1.trans (hb.mono hS1.size);have BZ:=aa (ai BZ.out hb BZ.out.lt);have hkb2:kb < w2.heap.size:=BZ.out.lt;refine hK _ _ ⟨hS2,?_⟩;clear hK hb;refine HG 5 rfl ?_;intro K' hK;go_simp;refine (VO.out _ hS2).mono ?_;rintro e w3 ⟨u,rfl,ho,hb⟩;have hS3:=hS2.trans (hb.mono hS2.size);obtain ⟨au,cu,rfl⟩:=ax ho;have HO:=aa (aN (base':=w.heap.size) ho hS2.size);have NE:Hid ((Value.slice au NV cu).ownBlock≠some kb):=fun e=>by have:=(aJ ho _ e).1;omega
  have BZ:=aa (ai BZ.out hb BZ.out.lt);refine hK _ _ ⟨hS3,?_⟩;clear hK hb ho;clear hg hal hkb hkb2;have f0:=BZ.out.fz 0;have f1:=BZ.out.fz 1;have z0:w3.cell? ⟨kb,0,none⟩=some (.int .i64 0):=BZ.out.c 0 (by simp);have z1:w3.cell? ⟨kb,1,none⟩=some (.int .i64 0):=BZ.out.c 1 (by simp);have B4:=aa (ay (ay BZ.out 0 (.int .i64 ka) (by simp)) 1 (.int .i64 kc) (by simp));have HO4:=aa (ownsRow_setCell_other (ownsRow_setCell_other HO.out (a:=⟨kb,0,none⟩) NE.out (.int .i64 ka)) (a:=⟨kb,1,none⟩) NE.out (.int .i64 kc));have hSz:=((hS3.setCell (p:=⟨kb,0,none⟩) hgs.out (.int .i64 ka)).setCell (p:=⟨kb,1,none⟩) hgs.out (.int .i64 kc));refine HG 7 rfl ?_;intro K' hK;go_simp;refine hK _ _ ⟨hSz,?_⟩;clear hK;refine HG 8 rfl ?_;intro K' hK;go_simp;refine hK _ _ ⟨hSz,?_⟩;clear hK;subst hNV hVS;refine wpAnyH_done (by kernel_rfl) ?_ _;exact HQ.out _ kb au cu _ rfl rfl rfl rfl rfl rfl rfl rfl rfl ⟨by simpa using B4.out,hgs.out,HO4.out,hSz⟩
theorem may_any (a z s:Int) (w:World) (h:nY a z s) :
  Calls Tryz.prog 126 #[.int .i64 a,.int .i64 z,.int .i64 s] w fun e w'=>e=.returned (.bool true)∧w'=w:=by
 obtain ⟨a0,a1,s1,sz,z1,z4⟩:=h
 go_enter Tryz.func126,Tryz.ntmps126
 go_wp2_with fail
 go_ret
 exact ⟨rfl,rfl⟩
theorem starts_any (a z s:Int) (w:World) (h:nY a z s) :
  Calls Tryz.prog 89 #[.int .i64 a,.int .i64 z,.int .i64 s] w fun e w'=>∃ u,e=.returned u∧w'.ownsRow w.heap.size 3 1 u (nU a z s).length ((nU a z s).map (Value.int .i64))∧Below w.heap.size w w':=by
 obtain ⟨i0,hi,hz0,hz1,hz2⟩:=info_parts infoI;have HM:=aa h;have hf:=gC h;obtain ⟨hk,hk4,hk0⟩:=mx h;obtain ⟨a0,a1,s1,sz,z1,z4⟩:=h;obtain ⟨m0,m1,m2,-⟩:=jk a0 s1;have hF:winF a z s=a - a.tmod s - mn a z s * s:=rfl;have he:a.tmod s=a % s:=Int.tmod_eq_emod_of_nonneg a0;have hQ:mn a z s=(z - 1 - a % s) / s:=by
  unfold mn;rw [he];exact Int.tdiv_eq_ediv_of_nonneg (by omega)
 rw [he] at hF hf m0 m1 m2;clear he;have HF:=aa hF;clear hF;rw [hQ] at hf HF hk;clear hQ;have hw:nU a z s=fY (winF a z s) s (winK a z s):=rfl;rw [hw];have hF0:-1000≤winF a z s:=by rw [HF.out];omega
 have UP:=aa (fun i=>mB HM.out i);clear hw hk;generalize winF a z s=F at *;generalize winK a z s=K at *
 go_enter Tryz.func89,Tryz.ntmps89
 go_wp2_with (go_at_call 126;refine (may_any a z s _ HM.out).mono ?_;rintro e w' ⟨rfl,hw⟩;subst w')
 rw [← HF.out];clear hf m0 m1 m2 HF
 go_loopw [9,10] (fun v i wr=>∃ n:Nat,n≤K∧i=.int .i64 (F+(n:Int) * s)∧Hid (wr.ownsRow w.heap.size 3 1 v n ((fY F s n).map (Value.int .i64)))∧Hid (Below w.heap.size w wr)) (fun _ i _=>(a+1 - intOf i).toNat)
 case atStart=>exact ⟨0,Nat.zero_le _,by simp,World.ownsRow_nil _ _ _ _,Below.refl _ _⟩
 case round =>
  obtain ⟨n,hn,rfl,HO,HB⟩:=hrel;obtain ⟨ao,cap,rfl⟩:=ax HO.out;have hs0:0≤(n:Int) * s:=Int.mul_nonneg (by omega) (by omega);have hst:Hid ((F+(n:Int) * s)+s=F+((n+1:Nat):Int) * s):=by
   show _=_
   rw [Int.natCast_add,Int.add_mul];omega
  have ht0:-1000≤F+(n:Int) * s:=by omega
  have hsn:=steps_succ F s n;have hu:=UP.out n;generalize F+(n:Int) * s=t at *
  by_cases hlt:n < K
  ·have ht:=hu.2 hlt
   go_wp2_with (at_builtin;go_must (refine wpList_append_own _ rfl (.tmp 38) (.tmp 40) 56 rfl w.heap.size 3 i0 (.int .i64 0) 1 8 Tryz.underlying56 hi hz0 hz1 hz2 rfl (by decide) _ _ _ rfl (HO.out.alloc _) ⟨wr.heap.size,0,none⟩ 1 1 [.int .i64 t] rfl rfl (eW _ _ _) (by intro u hu;simp at hu;subst hu;rfl) (by show _≤2 ^ 63 - 1;omega) (by omega) (by have:=HB.out.size;simp;omega) ?_))
   intro v' w3 ho3 hg3 _;have ho4:w3.ownsRow w.heap.size 3 1 v' (n+1) ((fY F s (n+1)).map (Value.int .i64)):=by rw [hsn];simpa using ho3
   have HO3:=aa ho4;have HB3:Hid (Below w.heap.size w w3):=(HB.out.alloc HB.out.size _).grown hg3 (by have:=HB.out.size;simp;omega) (fun k hk=>(HO.out.lt k hk).1);clear ho3 hg3 ho4;go_wp2_with fail;go_roundw
   case rel=>exact ⟨n+1,by omega,by rw [← hst.out],HO3,HB3⟩
   case measure=>simp [intOf];omega
  ·have ht:¬ t≤a:=fun hh=>hlt (hu.1 hh)
   have hnK:n=K:=by omega
   subst hnK;go_wp2_with fail
   go_ret
   exact ⟨_,rfl,by rw [lK];exact HO.out,HB.out⟩
theorem oN {a z s:Int} (h:nY a z s):∀ st∈nU a z s,-1000≤st∧st≤9999:=by
 intro st hs;unfold nU fY at hs;simp only [List.mem_map,List.mem_range] at hs;obtain ⟨i,hi,rfl⟩:=hs;have h1:=(mB h i).2 hi;have h2:=(win_rest h i hi).1;obtain ⟨a0,a1,s1,sz,z1,z4⟩:=h;omega
theorem nx {a z s:Int} (h:nY a z s):(nU a z s).length≤4:=by
 unfold nU;rw [lK];exact (mx h).2.1
def nX (B:Nat) (ks:List Int) (tb:List Pn) (c:Ct) (tb':List Pn) (wp:Pn):Prop :=
 (∃ (j:Nat) (hj:j < tb.length) (av:Value),(tb[j].st=c.st∧tb[j].k=c.key.1∧tb[j].n=c.key.2)∧tb'=tb.set j ⟨c.st,c.key.1,c.key.2,tb[j].told,dD tb[j].ac c.vs,av⟩∧bE B av∧(wp.st=c.st∧wp.k=c.key.1∧wp.n=c.key.2)∧wp.told=tb[j].told∧wp.ac=tb[j].ac) ∨
 ((∀ p∈tb,¬ (p.st=c.st∧p.k=c.key.1∧p.n=c.key.2))∧(∃ (i:Nat) (av:Value),i≤tb.length∧tb'=tb.take i++⟨c.st,c.key.1,c.key.2,false,dD (ks.map iw) c.vs,av⟩ :: tb.drop i∧bE B av)∧jD tb'∧wp.told=false)
theorem aK {B B':Nat} {v:Value} (h:bE B v) (hB:B'≤B):bE B' v:=fun k hk=>Nat.le_trans hB (h k hk)
theorem cJ {B B':Nat} {ks:List Int} {tb tb':List Pn} {c:Ct} {wp:Pn} (h:nX B ks tb c tb' wp) (hB:B'≤B):nX B' ks tb c tb' wp:=by
 rcases h with ⟨j,hj,av,h1,h2,h3,h4⟩ | ⟨h1,⟨i,av,h2,h3,h4⟩,h5⟩
 ·exact .inl ⟨j,hj,av,h1,h2,aK h3 hB,h4⟩
 ·exact .inr ⟨h1,⟨i,av,h2,h3,aK h4 hB⟩,h5⟩
structure TbOk (ks:List Int) (tb:List Pn):Prop where
 few:tb.length≤490
 rise:jD tb
 acc:∀ p∈tb,p.ac.length=ks.length∧∀ a∈p.ac,1≤a.k∧a.k≤5∧0≤a.n∧a.n≤1000
theorem add_e (ks:List Int) (tb:List Pn) (tv:Value) (c:Ct) (kv vv:Value) (w:World) (hT:TblR w tv tb) (hO:TbOk ks tb) (hk4:ks.length≤4) (hkk:∀ x∈ks,1≤x∧x≤5) (hkr:bT w kv 1 ks.length (ks.map (Value.int .i64))) (hv:bT w vv 2 c.vs.length (cB c.vs)) (hvl:c.vs.length=ks.length) :
  Calls Tryz.prog 62 #[.agg #[tv],.int .i64 c.st,.agg #[.int .i64 c.key.1,.int .i64 c.key.2],kv,vv] w fun e w'=>∃ u wp b tb',e=.returned (.tuple #[.agg #[u],eJ wp,.bool b])∧TblR w' u tb'∧jF w' wp∧bE w.heap.size u∧bE w.heap.size wp.av∧nX w.heap.size ks tb c tb' wp∧Below w.heap.size w w':=by
 have hl:tb.length≤500:=by have:=hO.few;omega
 by_cases hin:∃ p∈tb,p.st=c.st∧p.k=c.key.1∧p.n=c.key.2
 ·obtain ⟨p,hp,hk⟩:=hin;obtain ⟨j,hj,rfl⟩:=List.mem_iff_getElem.1 hp;obtain ⟨a1,a2⟩:=hO.acc tb[j] hp;refine (add_old2 tb tv c.st c.key.1 c.key.2 kv c.vs vv w hT hl hO.rise j hj hk (by omega) a2 hv (by rw [hvl,a1])).mono ?_;rintro e w' ⟨u,av,av2,rfl,h1,h2,⟨h3,h4,h5⟩,hb⟩;exact ⟨u,_,_,_,rfl,h1,h2,h3,h5,.inl ⟨j,hj,av,hk,rfl,h4,⟨rfl,rfl,rfl⟩,rfl,rfl⟩,hb⟩
 ·have hno:∀ p∈tb,¬ (p.st=c.st∧p.k=c.key.1∧p.n=c.key.2):=fun p hp h=>hin ⟨p,hp,h⟩
  refine (add_new tb tv c.st c.key.1 c.key.2 ks kv c.vs vv w hT hl hO.rise (by omega) hkr hkk hv hvl hno).mono ?_;rintro e w' ⟨i,u,av,hi,rfl,h1,h2,⟨h3,h4⟩,hb⟩;exact ⟨u,⟨0,0,0,false,[],.slice none 0 0⟩,_,_,rfl,h1,⟨rfl,.inl ⟨rfl,rfl⟩⟩,h3,fun k hk=>by simp [Value.ownBlock] at hk,.inr ⟨hno,⟨i,av,hi,rfl,h4⟩,h2,rfl⟩,hb⟩
theorem dm {w:World} {size n:Nat} {v:Value} {xs:List Value} (h:gi w v size n xs) {k:Nat} (hk:v.ownBlock=some k):k < w.heap.size:=by
 obtain ⟨_,h⟩:=h
 rcases h with ⟨h1,_⟩ | ⟨g,off,cap,h1,_,_,h4,_⟩
 ·rw [h1] at hk
  simp [Value.ownBlock] at hk
 ·rw [h1] at hk;have:g=k:=by simpa [Value.ownBlock] using hk
  omega
theorem cF {w0 w w':World} {tv u:Value} {tb tb':List Pn} {ks:List Int} {c:Ct} {wp:Pn} (hT0:TblR w0 tv tb) (h0:w0.heap.size≤w.heap.size) (hT:TblR w' u tb') (hA:jF w' wp) (hu:bE w.heap.size u) (hw:bE w.heap.size wp.av) (ha:nX w.heap.size ks tb c tb' wp) :
  ∀ k,(w0.heap.size≤k∧k < w.heap.size)∨w'.heap.size≤k→u.ownBlock≠some k∧(∀ p∈tb',p.av.ownBlock≠some k)∧wp.av.ownBlock≠some k:=fun k hk=>by
 refine ⟨fun e=>?_,fun p hp e=>?_,fun e=>?_⟩
 ·have h1:=hu k e;have h2:=dm hT.row e;omega
 ·have h2:=dm (hT.acc p hp) e;have hm:p∈tb∨bE w.heap.size p.av:=by
   rcases ha with ⟨j,hj,av,-,rfl,h3,-⟩ | ⟨-,⟨i,av,-,rfl,h3⟩,-⟩
   ·rcases List.mem_or_eq_of_mem_set hp with hp | rfl
    ·exact .inl hp
    ·exact .inr h3
   ·rw [List.mem_append,List.mem_cons] at hp
    rcases hp with hp | rfl | hp
    ·exact .inl (List.mem_of_mem_take hp)
    ·exact .inr h3
    ·exact .inl (List.mem_of_mem_drop hp)
  rcases hm with hm | hm
  ·have h1:=dm (hT0.acc p hm) e;omega
  ·have h1:=hm k e;omega
 ·have h1:=hw k e;have h2:=dm hA e;omega
theorem aH {w w':World} {g:Nat} {C:List Value} (h:BlkAt w g C) (hb:Below w.heap.size w w'):BlkAt w' g C:=ai h hb h.lt
theorem dF {w w':World} {v:Value} {ps:List Pn} (h:TblR w v ps) (hb:Below w.heap.size w w'):TblR w' v ps:=d7 h hb
theorem eC {w w':World} {p:Pn} (h:jF w p) (hb:Below w.heap.size w w'):jF w' p:=bp h hb
theorem cm {w w':World} {v:Value} {ps:List Pn} {bad:Nat→Prop} (h:TblR w v ps) (hk:KeptB w w' bad) (h1:∀ k,v.ownBlock=some k→¬ bad k) (h2:∀ p∈ps,∀ k,p.av.ownBlock=some k→¬ bad k):TblR w' v ps :=
 ⟨aZ h.row hk h1,fun p hp=>aZ (h.acc p hp) hk (h2 p hp)⟩
theorem r1_end {w w9:World} {tb_ wb_:Nat} {u:Value} {tb':List Pn} {ws wk wn:Int} {wt:Bool} {wac:List Ac} {wav:Value} {z0 z1 z2 z3 z4 z5:Value} (hb:Below w.heap.size w w9) (hne:tb_≠wb_) (y1:w.heap.size≤tb_) (y2:w.heap.size≤wb_) (BT:BlkAt w9 tb_ [z0]) (BW:BlkAt w9 wb_ [z1,z2,z3,z4,z5])
  (TT:TblR w9 u tb') (AA:jF w9 ⟨ws,wk,wn,wt,wac,wav⟩) (dT:u.ownBlock≠some tb_∧(∀ p∈tb',p.av.ownBlock≠some tb_)∧wav.ownBlock≠some tb_) (dW:u.ownBlock≠some wb_∧(∀ p∈tb',p.av.ownBlock≠some wb_)∧wav.ownBlock≠some wb_) :
  let wE:=(((((w9.setCell ⟨tb_,0,none⟩ u).setCell ⟨wb_,0,none⟩ (.int .i64 ws)).setCell ⟨wb_,1,none⟩ (.int .i64 wk)).setCell ⟨wb_,2,none⟩ (.int .i64 wn)).setCell ⟨wb_,3,none⟩ wav).setCell ⟨wb_,4,none⟩ (.bool wt)
  BlkAt wE tb_ [u]∧BlkAt wE wb_ [.int .i64 ws,.int .i64 wk,.int .i64 wn,wav,.bool wt]∧TblR wE u tb'∧jF wE ⟨ws,wk,wn,wt,wac,wav⟩∧Below w.heap.size w wE:=by
 have K1:=ah (ae (bad:=fun k=>k=tb_∨k=wb_) (Below.refl w9.heap.size w9)) (g:=tb_) (.inl rfl) 0 u;have K:=ah (ah (ah (ah (ah K1 (g:=wb_) (.inr rfl) 0 (.int .i64 ws)) (g:=wb_) (.inr rfl) 1 (.int .i64 wk)) (g:=wb_) (.inr rfl) 2 (.int .i64 wn)) (g:=wb_) (.inr rfl) 3 wav) (g:=wb_) (.inr rfl) 4 (.bool wt);have BT1:=ay BT 0 u (by simp);have KT:=ah (ah (ah (ah (ah (ae (bad:=fun k=>k=wb_) (Below.refl _ (w9.setCell ⟨tb_,0,none⟩ u))) (g:=wb_) rfl 0 (.int .i64 ws)) (g:=wb_) rfl 1 (.int .i64 wk)) (g:=wb_) rfl 2 (.int .i64 wn)) (g:=wb_) rfl 3 wav) (g:=wb_) rfl 4 (.bool wt);have BW1:=aI BW (ah (ae (bad:=fun k=>k=tb_) (Below.refl w9.heap.size w9)) (g:=tb_) rfl 0 u) (fun e=>hne e.symm);refine ⟨by simpa using aI BT1 KT hne,by simpa using ay (ay (ay (ay (ay BW1 0 (.int .i64 ws) (by simp)) 1 (.int .i64 wk) (by simp)) 2 (.int .i64 wn) (by simp)) 3 wav (by simp)) 4 (.bool wt) (by simp),?_,?_,?_⟩
 ·refine cm TT K (fun k hk e=>?_) (fun p hp k hk e=>?_)
  ·rcases e with rfl | rfl
   ·exact dT.1 hk
   ·exact dW.1 hk
  ·rcases e with rfl | rfl
   ·exact dT.2.1 p hp hk
   ·exact dW.2.1 p hp hk
 ·refine aZ AA K (fun k hk e=>?_)
  rcases e with rfl | rfl
  ·exact dT.2.2 hk
  ·exact dW.2.2 hk
 ·exact hb.trans (aL K hb.size (by rintro k (rfl | rfl) <;> assumption))
section
variable {P:Program} {md:Region.Mode} {ops:Array Oper} {Q:Exit→Act→World→Prop} {S:World→Prop}
theorem fI {i j k:Nat} {oi oj ok:Oper} {fuel:Nat} {listed Li Lj Lk:Array Bool} {a:Act} {w:World} (hr:Region.ready md ops listed=[i,j,k]) (hoi:ops[i]?=some oi) (hoj:ops[j]?=some oj) (hok:ops[k]?=some ok)
  (hwi:Region.wanted oi (yielded ops a.tmps)=true) (hwj:Region.wanted oj (yielded ops a.tmps)=true) (hwk:Region.wanted ok (yielded ops a.tmps)=true) (hLi:listed.setIfInBounds i true=Li) (hLj:listed.setIfInBounds j true=Lj) (hLk:listed.setIfInBounds k true=Lk)
  (hi:∀ K':Act→World→Prop,(∀ a' w',(S w'∧wpAnyH P md ops Q S fuel Li a' w')→K' a' w')→Oper.wp P oi a w K' Q)
  (hj:∀ K':Act→World→Prop,(∀ a' w',(S w'∧wpAnyH P md ops Q S fuel Lj a' w')→K' a' w')→Oper.wp P oj a w K' Q)
  (hk:∀ K':Act→World→Prop,(∀ a' w',(S w'∧wpAnyH P md ops Q S fuel Lk a' w')→K' a' w')→Oper.wp P ok a w K' Q):wpAnyH P md ops Q S (fuel+1) listed a w :=
 wpAnyH_all hr (by simp) (fun x hx=>by
  rcases List.mem_cons.1 hx with rfl | hx
  ·exact wpOp_step hoi (fun K' hK=>by rw [if_pos hwi];exact hi K' (fun a' w' q=>hK a' w' ⟨q.1,by rw [hLi];exact q.2⟩))
  ·rcases List.mem_cons.1 hx with rfl | hx
   ·exact wpOp_step hoj (fun K' hK=>by rw [if_pos hwj];exact hj K' (fun a' w' q=>hK a' w' ⟨q.1,by rw [hLj];exact q.2⟩))
   ·rw [List.mem_singleton] at hx;subst hx;exact wpOp_step hok (fun K' hK=>by rw [if_pos hwk];exact hk K' (fun a' w' q=>hK a' w' ⟨q.1,by rw [hLk];exact q.2⟩)))
end
end Go.Proofs.YtcgjflamgnjhcaaGreatDoor

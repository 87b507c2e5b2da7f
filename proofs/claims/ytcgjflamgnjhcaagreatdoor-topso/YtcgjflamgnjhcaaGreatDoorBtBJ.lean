/- Own texts in one. Conditions: as named in each. -/
import Derived.Test.YtcgjflamgnjhcaaGreatDoorChkRJ
import Derived.Test.YtcgjflamgnjhcaaGreatDoorPrs1J
import Derived.Test.YtcgjflamgnjhcaaGreatDoorKinJ
import Derived.Test.YtcgjflamgnjhcaaGreatDoorParsePureJ
set_option linter.unusedVariables false
set_option linter.unusedSimpArgs false
set_option maxRecDepth 100000
set_option maxHeartbeats 8000000
namespace Go.Proofs.YtcgjflamgnjhcaaGreatDoor
open Go.ChangeShapes Go.WideShapes Go.ChangeAt Go.RowKit
theorem dU (t:List Value) (h:t.length=58):∃ f:Nat→Value,t=f 0 :: f 1 :: f 2 :: f 3 :: f 4 :: f 5 :: f 6 :: f 7 :: f 8 :: f 9 :: f 10 :: f 11 :: f 12 :: f 13 :: f 14 :: f 15 :: f 16 :: f 17 :: f 18 :: f 19 :: f 20 :: f 21 :: f 22 :: f 23 :: f 24 :: f 25 :: f 26 :: f 27 :: f 28 :: f 29 :: f 30 :: f 31 :: f 32 :: f 33 :: f 34 :: f 35 :: f 36 :: f 37 :: f 38 :: f 39 :: f 40 :: f 41 :: f 42 :: f 43 :: f 44 :: f 45 :: f 46 :: f 47 :: f 48 :: f 49 :: f 50 :: f 51 :: f 52 :: f 53 :: f 54 :: f 55 :: f 56 :: f 57 :: []∧∀ i,i < 58→t[i]?=some (f i):=by
 have e1:t=(List.range 58).map (fun i=>t.getD i undef):=by
  apply List.ext_getElem
  ·simp [h]
  ·intro i h1 h2
   simp [List.getD,h1]
 refine ⟨fun i=>t.getD i undef,?_,fun i hi=>?_⟩
 ·have e2:∀ g:Nat→Value,(List.range 58).map g=g 0 :: g 1 :: g 2 :: g 3 :: g 4 :: g 5 :: g 6 :: g 7 :: g 8 :: g 9 :: g 10 :: g 11 :: g 12 :: g 13 :: g 14 :: g 15 :: g 16 :: g 17 :: g 18 :: g 19 :: g 20 :: g 21 :: g 22 :: g 23 :: g 24 :: g 25 :: g 26 :: g 27 :: g 28 :: g 29 :: g 30 :: g 31 :: g 32 :: g 33 :: g 34 :: g 35 :: g 36 :: g 37 :: g 38 :: g 39 :: g 40 :: g 41 :: g 42 :: g 43 :: g 44 :: g 45 :: g 46 :: g 47 :: g 48 :: g 49 :: g 50 :: g 51 :: g 52 :: g 53 :: g 54 :: g 55 :: g 56 :: g 57 :: []:=fun _=>rfl
  exact e1.trans (e2 _)
 ·simp [List.getD,h,hi]
theorem pq (Q:Exit→Act→World→Prop) (C3:Code) (h3:rgn 3 (Tryz.f46.body.getD .skip)=some C3) (t:List Value) (qb xb:Nat) (q:Qy) (ps:List (AgQ×Value)) (x:Ev) (ao a2 a3:Option Addr) (cap c2 c3:Nat) (ka kc upto:Int) (known:Bool) (pv:Value) (w:World) (ht:t.length=58) (k2:t[2]?=some (.int .i64 upto)) (k3:t[3]?=some (.bool known)) (k4:t[4]?=some (pv)) (k5:t[5]?=some (.pointer (some ⟨qb,0,none⟩))) (k6:t[6]?=some (.pointer (some ⟨xb,0,none⟩))) (k10:t[10]?=some (.int .i64 0))
  (BQ:BlkAt w qb [Value.slice ao ps.length cap,Value.slice a2 q.wh.length c2,Value.slice a3 q.bys.length c3,Value.int .i64 q.size,Value.int .i64 q.slide,Value.int .i64 q.delay,Value.int .i64 q.late]) (BX:BlkAt w xb [Value.int .i64 x.t,Value.int .i64 x.k1,Value.int .i64 x.k2,Value.int .i64 x.a1,Value.int .i64 x.a2,Value.int .i64 x.b1,Value.int .i64 x.b2]) (h:QyG w (.slice ao ps.length cap) (.slice a2 q.wh.length c2) (.slice a3 q.bys.length c3) q ps) (h4:ps.length≤4) (hn:QyN q) (hx:∀ p∈evX x,okV p) (hk:qo q x=(ka,kc))
  (hpan:∀ c (a:Act) o v w,Q (.panic c) (a.put o v) w→Q (.panic c) a w)
  (hQ:∀ (t':List Value) (kb:Nat) (au:Option Addr) (cu:Nat) (w':World),t'.length=58→t'[2]?=some (.int .i64 upto)→t'[3]?=some (.bool known)→t'[4]?=some (pv)→t'[5]?=some (.pointer (some ⟨qb,0,none⟩))→t'[6]?=some (.pointer (some ⟨xb,0,none⟩))→t'[10]?=some (.int .i64 0)→t'[11]?=some (.pointer (some ⟨kb,0,none⟩))→t'[12]?=some (.slice au (valsQ q x).length cu)→BlkAt w' kb [.int .i64 ka,.int .i64 kc]∧w.heap.size≤kb∧w'.ownsRow w.heap.size 41 2 (.slice au (valsQ q x).length cu) (valsQ q x).length (bW (valsQ q x))∧Below w.heap.size w w'→Q .normal { tmps:=t'.toArray,defers:=[] } w') :
  Code.wp Tryz.prog C3 Q { tmps:=t.toArray,defers:=[] } w:=by
 have HQ:=aa hQ;have HPN:=aa hpan;have dd:Below w.heap.size w ({ w with drawn:=w.drawn+1 }:World):=(Below.refl _ _).drew;have hS:=dd;have KO:Hid (∀ w',Below w.heap.size w w'→Calls Tryz.prog 87 #[.agg #[Value.slice ao ps.length cap,Value.slice a2 q.wh.length c2,Value.slice a3 q.bys.length c3,Value.int .i64 q.size,Value.int .i64 q.slide,Value.int .i64 q.delay,Value.int .i64 q.late],.agg #[Value.int .i64 x.t,Value.int .i64 x.k1,Value.int .i64 x.k2,Value.int .i64 x.a1,Value.int .i64 x.a2,Value.int .i64 x.b1,Value.int .i64 x.b2]] w' fun e w''=>e=.returned (.agg #[.int .i64 ka,.int .i64 kc])∧Below w'.heap.size w' w''):=fun w' hb=>by
  have:=keyof_q _ _ _ q ps x w' (aR h hb) hn hx
  rw [hk] at this;exact this
 have VO:Hid (∀ w',Below w.heap.size w w'→Calls Tryz.prog 88 #[.agg #[Value.slice ao ps.length cap,Value.slice a2 q.wh.length c2,Value.slice a3 q.bys.length c3,Value.int .i64 q.size,Value.int .i64 q.slide,Value.int .i64 q.delay,Value.int .i64 q.late],.agg #[Value.int .i64 x.t,Value.int .i64 x.k1,Value.int .i64 x.k2,Value.int .i64 x.a1,Value.int .i64 x.a2,Value.int .i64 x.b1,Value.int .i64 x.b2]] w' fun e w''=>∃ u,e=.returned u∧w''.ownsRow w'.heap.size 41 2 u (valsQ q x).length (bW (valsQ q x))∧Below w'.heap.size w' w''):=fun w' hb=>valsof_q _ _ _ q ps x w' (aR h hb) h4 hn hx
 obtain ⟨VS,hVS⟩:∃ VS,valsQ q x=VS:=⟨_,rfl⟩;obtain ⟨NV,hNV⟩:∃ NV,VS.length=NV:=⟨_,rfl⟩;rw [hVS,hNV] at VO;have BQ:=aa BQ;have BX:=aa BX;clear hQ hpan h dd h4 hn hx hk;obtain ⟨f,hf,hi⟩:=dU t ht;have e2:=aq (hi 2 (by decide)) k2;have e3:=aq (hi 3 (by decide)) k3;have e4:=aq (hi 4 (by decide)) k4;have e5:=aq (hi 5 (by decide)) k5;have e6:=aq (hi 6 (by decide)) k6;have e10:=aq (hi 10 (by decide)) k10;rw [e2,e3,e4,e5,e6,e10] at hf;clear hi ht k2 e2 k3 e3 k4 e4 k5 e5 k6 e6 k10 e10;subst hf;unfold Tryz.f46 at h3
 simp [rgn] at h3
 subst h3;refine wp_region_held (S:=fun w'=>Below w.heap.size w w') (by kernel_rfl) ?_;generalize ({ w with drawn:=w.drawn+1 }:World)=wd at *;refine HT 0 (v:=.agg #[Value.slice ao ps.length cap,Value.slice a2 q.wh.length c2,Value.slice a3 q.bys.length c3,Value.int .i64 q.size,Value.int .i64 q.slide,Value.int .i64 q.delay,Value.int .i64 q.late]) rfl HPN.out (fun wq hq=>by have K:=ah BQ.out hq BQ.out.lt;have q0:wq.cell? ⟨_,0,none⟩=some (Value.slice ao ps.length cap):=K.c 0 (by simp);have q1:wq.cell? ⟨_,1,none⟩=some (Value.slice a2 q.wh.length c2):=K.c 1 (by simp);have q2:wq.cell? ⟨_,2,none⟩=some (Value.slice a3 q.bys.length c3):=K.c 2 (by simp);have q3:wq.cell? ⟨_,3,none⟩=some (Value.int .i64 q.size):=K.c 3 (by simp);have q4:wq.cell? ⟨_,4,none⟩=some (Value.int .i64 q.slide):=K.c 4 (by simp);have q5:wq.cell? ⟨_,5,none⟩=some (Value.int .i64 q.delay):=K.c 5 (by simp);have q6:wq.cell? ⟨_,6,none⟩=some (Value.int .i64 q.late):=K.c 6 (by simp);clear K;go_simp) hS ?_;refine HT 1 (v:=.agg #[Value.int .i64 x.t,Value.int .i64 x.k1,Value.int .i64 x.k2,Value.int .i64 x.a1,Value.int .i64 x.a2,Value.int .i64 x.b1,Value.int .i64 x.b2]) rfl HPN.out (fun wq hq=>by have K:=ah BX.out hq BX.out.lt;have q0:wq.cell? ⟨_,0,none⟩=some (Value.int .i64 x.t):=K.c 0 (by simp);have q1:wq.cell? ⟨_,1,none⟩=some (Value.int .i64 x.k1):=K.c 1 (by simp);have q2:wq.cell? ⟨_,2,none⟩=some (Value.int .i64 x.k2):=K.c 2 (by simp);have q3:wq.cell? ⟨_,3,none⟩=some (Value.int .i64 x.a1):=K.c 3 (by simp);have q4:wq.cell? ⟨_,4,none⟩=some (Value.int .i64 x.a2):=K.c 4 (by simp);have q5:wq.cell? ⟨_,5,none⟩=some (Value.int .i64 x.b1):=K.c 5 (by simp);have q6:wq.cell? ⟨_,6,none⟩=some (Value.int .i64 x.b2):=K.c 6 (by simp);clear K;go_simp) hS ?_;refine HT 3 (v:=.agg #[Value.slice ao ps.length cap,Value.slice a2 q.wh.length c2,Value.slice a3 q.bys.length c3,Value.int .i64 q.size,Value.int .i64 q.slide,Value.int .i64 q.delay,Value.int .i64 q.late]) rfl HPN.out (fun wq hq=>by have K:=ah BQ.out hq BQ.out.lt;have q0:wq.cell? ⟨_,0,none⟩=some (Value.slice ao ps.length cap):=K.c 0 (by simp);have q1:wq.cell? ⟨_,1,none⟩=some (Value.slice a2 q.wh.length c2):=K.c 1 (by simp);have q2:wq.cell? ⟨_,2,none⟩=some (Value.slice a3 q.bys.length c3):=K.c 2 (by simp);have q3:wq.cell? ⟨_,3,none⟩=some (Value.int .i64 q.size):=K.c 3 (by simp);have q4:wq.cell? ⟨_,4,none⟩=some (Value.int .i64 q.slide):=K.c 4 (by simp);have q5:wq.cell? ⟨_,5,none⟩=some (Value.int .i64 q.delay):=K.c 5 (by simp);have q6:wq.cell? ⟨_,6,none⟩=some (Value.int .i64 q.late):=K.c 6 (by simp);clear K;go_simp) hS ?_;refine HT 4 (v:=.agg #[Value.int .i64 x.t,Value.int .i64 x.k1,Value.int .i64 x.k2,Value.int .i64 x.a1,Value.int .i64 x.a2,Value.int .i64 x.b1,Value.int .i64 x.b2]) rfl HPN.out (fun wq hq=>by have K:=ah BX.out hq BX.out.lt;have q0:wq.cell? ⟨_,0,none⟩=some (Value.int .i64 x.t):=K.c 0 (by simp);have q1:wq.cell? ⟨_,1,none⟩=some (Value.int .i64 x.k1):=K.c 1 (by simp);have q2:wq.cell? ⟨_,2,none⟩=some (Value.int .i64 x.k2):=K.c 2 (by simp);have q3:wq.cell? ⟨_,3,none⟩=some (Value.int .i64 x.a1):=K.c 3 (by simp);have q4:wq.cell? ⟨_,4,none⟩=some (Value.int .i64 x.a2):=K.c 4 (by simp);have q5:wq.cell? ⟨_,5,none⟩=some (Value.int .i64 x.b1):=K.c 5 (by simp);have q6:wq.cell? ⟨_,6,none⟩=some (Value.int .i64 x.b2):=K.c 6 (by simp);clear K;go_simp) hS ?_
 refine H2 2 6 rfl rfl ?_ ?_
 ·intro K' hK;go_simp;refine (KO.out _ hS).mono ?_;rintro e w1 ⟨rfl,hb⟩;have hS1:=hS.trans (hb.mono hS.size);refine hK _ _ ⟨hS1,?_⟩;clear hK hb;refine H2 5 6 rfl rfl ?_ ?_
  ·intro K' hK;go_simp;refine (VO.out _ hS1).mono ?_;rintro e w2 ⟨u,rfl,ho,hb⟩;have hS2:=hS1.trans (hb.mono hS1.size);obtain ⟨au,cu,rfl⟩:=ax ho;have HO0:=aa ho;have hlt:=fun k e=>(aJ ho k e).2
   have HLT:=aa hlt;refine hK _ _ ⟨hS2,?_⟩;clear hK hb ho hlt;refine HG 6 rfl ?_;intro K' hK;have BZ:=aa (ay w2 [.int .i64 0,.int .i64 0] 41);have hgs:Hid (w.heap.size≤w2.heap.size):=hS2.size;have hS3:=hS2.alloc hS2.size (.cells #[.int .i64 0,.int .i64 0] 41);have hal:=aa (aj w2 (.cells #[.int .i64 0,.int .i64 0] 41));go_simp;refine hK _ _ ⟨hS3,?_⟩;clear hK;have HO:=aa (aK (base':=w.heap.size) (aB HO0.out hal.out (Nat.le_refl _)) hS1.size);have NE:Hid ((Value.slice au NV cu).ownBlock≠some w2.heap.size):=fun e=>by have:=HLT.out _ e;omega
   generalize hg:w2.heap.size=kb at *;have hS3':Hid (Below w.heap.size w (w2.alloc (.cells #[.int .i64 0,.int .i64 0] 41))):=hS3;generalize w2.alloc (.cells #[.int .i64 0,.int .i64 0] 41)=w3 at *;have hS3:=hS3'.out;clear hg HLT HO0 hal hS2;have f0:=BZ.out.fz 0;have f1:=BZ.out.fz 1;have z0:w3.cell? ⟨kb,0,none⟩=some (.int .i64 0):=BZ.out.c 0 (by simp);have z1:w3.cell? ⟨kb,1,none⟩=some (.int .i64 0):=BZ.out.c 1 (by simp);have B4:=aa (az (az BZ.out 0 (.int .i64 ka) (by simp)) 1 (.int .i64 kc) (by simp));have HO4:=aa (ownsRow_setCell_other (ownsRow_setCell_other HO.out (a:=⟨kb,0,none⟩) NE.out (.int .i64 ka)) (a:=⟨kb,1,none⟩) NE.out (.int .i64 kc));have hSz:=((hS3.setCell (p:=⟨kb,0,none⟩) hgs.out (.int .i64 ka)).setCell (p:=⟨kb,1,none⟩) hgs.out (.int .i64 kc));refine HG 7 rfl ?_;intro K' hK;go_simp;refine hK _ _ ⟨hSz,?_⟩;clear hK;refine HG 8 rfl ?_;intro K' hK;go_simp;refine hK _ _ ⟨hSz,?_⟩;clear hK;subst hNV hVS;refine wpAnyH_done (by kernel_rfl) ?_ _;exact HQ.out _ kb au cu _ rfl rfl rfl rfl rfl rfl rfl rfl rfl ⟨by simpa using B4.out,hgs.out,HO4.out,hSz⟩
  ·intro K' hK;have BZ:=aa (ay w1 [.int .i64 0,.int .i64 0] 41);have hgs:Hid (w.heap.size≤w1.heap.size):=hS1.size;have hS2:=hS1.alloc hS1.size (.cells #[.int .i64 0,.int .i64 0] 41);have hal:=aa (aj w1 (.cells #[.int .i64 0,.int .i64 0] 41));go_simp;refine hK _ _ ⟨hS2,?_⟩;clear hK;generalize hg:w1.heap.size=kb at *;have hS2':Hid (Below w.heap.size w (w1.alloc (.cells #[.int .i64 0,.int .i64 0] 41))):=hS2;generalize w1.alloc (.cells #[.int .i64 0,.int .i64 0] 41)=w2 at *;have hS2:=hS2'.out;have hkb:kb < w2.heap.size:=BZ.out.lt;refine HG 5 rfl ?_;intro K' hK;go_simp;refine (VO.out _ hS2).mono ?_;rintro e w3 ⟨u,rfl,ho,hb⟩;have hS3:=hS2.trans (hb.mono hS2.size);obtain ⟨au,cu,rfl⟩:=ax ho;have HO:=aa (aK (base':=w.heap.size) ho hS2.size);have NE:Hid ((Value.slice au NV cu).ownBlock≠some kb):=fun e=>by have:=(aJ ho _ e).1;omega
   have BZ:=aa (ah BZ.out hb BZ.out.lt);refine hK _ _ ⟨hS3,?_⟩;clear hK hb ho;clear hg hal hkb;have f0:=BZ.out.fz 0;have f1:=BZ.out.fz 1;have z0:w3.cell? ⟨kb,0,none⟩=some (.int .i64 0):=BZ.out.c 0 (by simp);have z1:w3.cell? ⟨kb,1,none⟩=some (.int .i64 0):=BZ.out.c 1 (by simp);have B4:=aa (az (az BZ.out 0 (.int .i64 ka) (by simp)) 1 (.int .i64 kc) (by simp));have HO4:=aa (ownsRow_setCell_other (ownsRow_setCell_other HO.out (a:=⟨kb,0,none⟩) NE.out (.int .i64 ka)) (a:=⟨kb,1,none⟩) NE.out (.int .i64 kc));have hSz:=((hS3.setCell (p:=⟨kb,0,none⟩) hgs.out (.int .i64 ka)).setCell (p:=⟨kb,1,none⟩) hgs.out (.int .i64 kc));refine HG 7 rfl ?_;intro K' hK;go_simp;refine hK _ _ ⟨hSz,?_⟩;clear hK;refine HG 8 rfl ?_;intro K' hK;go_simp;refine hK _ _ ⟨hSz,?_⟩;clear hK;subst hNV hVS;refine wpAnyH_done (by kernel_rfl) ?_ _;exact HQ.out _ kb au cu _ rfl rfl rfl rfl rfl rfl rfl rfl rfl ⟨by simpa using B4.out,hgs.out,HO4.out,hSz⟩
 ·intro K' hK;have BZ:=aa (ay wd [.int .i64 0,.int .i64 0] 41);have hgs:Hid (w.heap.size≤wd.heap.size):=hS.size;have hS1:=hS.alloc hS.size (.cells #[.int .i64 0,.int .i64 0] 41);have hal:=aa (aj wd (.cells #[.int .i64 0,.int .i64 0] 41));go_simp;refine hK _ _ ⟨hS1,?_⟩;clear hK;generalize hg:wd.heap.size=kb at *;have hS1':Hid (Below w.heap.size w (wd.alloc (.cells #[.int .i64 0,.int .i64 0] 41))):=hS1;generalize wd.alloc (.cells #[.int .i64 0,.int .i64 0] 41)=w1 at *;have hS1:=hS1'.out;have hkb:kb < w1.heap.size:=BZ.out.lt;refine HG 2 rfl ?_;intro K' hK;go_simp;refine (KO.out _ hS1).mono ?_;rintro e w2 ⟨rfl,hb⟩;have hS2:=hS1.trans (hb.mono hS1.size);have BZ:=aa (ah BZ.out hb BZ.out.lt);have hkb2:kb < w2.heap.size:=BZ.out.lt;refine hK _ _ ⟨hS2,?_⟩;clear hK hb;refine HG 5 rfl ?_;intro K' hK;go_simp;refine (VO.out _ hS2).mono ?_;rintro e w3 ⟨u,rfl,ho,hb⟩;have hS3:=hS2.trans (hb.mono hS2.size);obtain ⟨au,cu,rfl⟩:=ax ho;have HO:=aa (aK (base':=w.heap.size) ho hS2.size);have NE:Hid ((Value.slice au NV cu).ownBlock≠some kb):=fun e=>by have:=(aJ ho _ e).1;omega
  have BZ:=aa (ah BZ.out hb BZ.out.lt);refine hK _ _ ⟨hS3,?_⟩;clear hK hb ho;clear hg hal hkb hkb2;have f0:=BZ.out.fz 0;have f1:=BZ.out.fz 1;have z0:w3.cell? ⟨kb,0,none⟩=some (.int .i64 0):=BZ.out.c 0 (by simp);have z1:w3.cell? ⟨kb,1,none⟩=some (.int .i64 0):=BZ.out.c 1 (by simp);have B4:=aa (az (az BZ.out 0 (.int .i64 ka) (by simp)) 1 (.int .i64 kc) (by simp));have HO4:=aa (ownsRow_setCell_other (ownsRow_setCell_other HO.out (a:=⟨kb,0,none⟩) NE.out (.int .i64 ka)) (a:=⟨kb,1,none⟩) NE.out (.int .i64 kc));have hSz:=((hS3.setCell (p:=⟨kb,0,none⟩) hgs.out (.int .i64 ka)).setCell (p:=⟨kb,1,none⟩) hgs.out (.int .i64 kc));refine HG 7 rfl ?_;intro K' hK;go_simp;refine hK _ _ ⟨hSz,?_⟩;clear hK;refine HG 8 rfl ?_;intro K' hK;go_simp;refine hK _ _ ⟨hSz,?_⟩;clear hK;subst hNV hVS;refine wpAnyH_done (by kernel_rfl) ?_ _;exact HQ.out _ kb au cu _ rfl rfl rfl rfl rfl rfl rfl rfl rfl ⟨by simpa using B4.out,hgs.out,HO4.out,hSz⟩
theorem may_any (a z s:Int) (w:World) (h:mT a z s) :
  Calls Tryz.prog 126 #[.int .i64 a,.int .i64 z,.int .i64 s] w fun e w'=>e=.returned (.bool true)∧w'=w:=by
 obtain ⟨a0,a1,s1,sz,z1,z4⟩:=h
 go_enter Tryz.func126,Tryz.ntmps126
 go_wp2_with fail
 go_ret
 exact ⟨rfl,rfl⟩
theorem jY (a z s:Int) (w:World) (h:mT a z s) :
  Calls Tryz.prog 89 #[.int .i64 a,.int .i64 z,.int .i64 s] w fun e w'=>∃ u,e=.returned u∧w'.ownsRow w.heap.size 3 1 u (nN a z s).length ((nN a z s).map (Value.int .i64))∧Below w.heap.size w w':=by
 obtain ⟨i0,hi,hz0,hz1,hz2⟩:=info_parts infoI;have HM:=aa h;have hf:=gK h;obtain ⟨hk,hk4,hk0⟩:=mi h;obtain ⟨a0,a1,s1,sz,z1,z4⟩:=h;obtain ⟨m0,m1,m2,-⟩:=jp a0 s1;have hF:winF a z s=a - a.tmod s - mp a z s * s:=rfl;have he:a.tmod s=a % s:=Int.tmod_eq_emod_of_nonneg a0;have hQ:mp a z s=(z - 1 - a % s) / s:=by
  unfold mp;rw [he];exact Int.tdiv_eq_ediv_of_nonneg (by omega)
 rw [he] at hF hf m0 m1 m2;clear he;have HF:=aa hF;clear hF;rw [hQ] at hf HF hk;clear hQ;have hw:nN a z s=fX (winF a z s) s (winK a z s):=rfl;rw [hw];have hF0:-1000≤winF a z s:=by rw [HF.out];omega
 have UP:=aa (fun i=>mM HM.out i);clear hw hk;generalize winF a z s=F at *;generalize winK a z s=K at *
 go_enter Tryz.func89,Tryz.ntmps89
 go_wp2_with (go_at_call 126;refine (may_any a z s _ HM.out).mono ?_;rintro e w' ⟨rfl,hw⟩;subst w')
 rw [← HF.out];clear hf m0 m1 m2 HF
 go_loopw [9,10] (fun v i wr=>∃ n:Nat,n≤K∧i=.int .i64 (F+(n:Int) * s)∧Hid (wr.ownsRow w.heap.size 3 1 v n ((fX F s n).map (Value.int .i64)))∧Hid (Below w.heap.size w wr)) (fun _ i _=>(a+1 - intOf i).toNat)
 case atStart=>exact ⟨0,Nat.zero_le _,by simp,World.ownsRow_nil _ _ _ _,Below.refl _ _⟩
 case round =>
  obtain ⟨n,hn,rfl,HO,HB⟩:=hrel;obtain ⟨ao,cap,rfl⟩:=ax HO.out;have hs0:0≤(n:Int) * s:=Int.mul_nonneg (by omega) (by omega);have hst:Hid ((F+(n:Int) * s)+s=F+((n+1:Nat):Int) * s):=by
   show _=_
   rw [Int.natCast_add,Int.add_mul];omega
  have ht0:-1000≤F+(n:Int) * s:=by omega
  have hsn:=steps_succ F s n;have hu:=UP.out n;generalize F+(n:Int) * s=t at *
  by_cases hlt:n < K
  ·have ht:=hu.2 hlt
   go_wp2_with (at_builtin;go_must (refine wpList_append_own _ rfl (.tmp 38) (.tmp 40) 56 rfl w.heap.size 3 i0 (.int .i64 0) 1 8 Tryz.underlying56 hi hz0 hz1 hz2 rfl (by decide) _ _ _ rfl (HO.out.alloc _) ⟨wr.heap.size,0,none⟩ 1 1 [.int .i64 t] rfl rfl (fg _ _ _) (by intro u hu;simp at hu;subst hu;rfl) (by show _≤2 ^ 63 - 1;omega) (by omega) (by have:=HB.out.size;simp;omega) ?_))
   intro v' w3 ho3 hg3 _;have ho4:w3.ownsRow w.heap.size 3 1 v' (n+1) ((fX F s (n+1)).map (Value.int .i64)):=by rw [hsn];simpa using ho3
   have HO3:=aa ho4;have HB3:Hid (Below w.heap.size w w3):=(HB.out.alloc HB.out.size _).grown hg3 (by have:=HB.out.size;simp;omega) (fun k hk=>(HO.out.lt k hk).1);clear ho3 hg3 ho4;go_wp2_with fail;go_roundw
   case rel=>exact ⟨n+1,by omega,by rw [← hst.out],HO3,HB3⟩
   case measure=>simp [intOf];omega
  ·have ht:¬ t≤a:=fun hh=>hlt (hu.1 hh)
   have hnK:n=K:=by omega
   subst hnK;go_wp2_with fail
   go_ret
   exact ⟨_,rfl,by rw [lD];exact HO.out,HB.out⟩
structure PutW (R:List Ct→World→Prop) (bad:Nat→Prop) (n:Nat) (p1 p2:Value):Prop where
 below:∀ cs w w',R cs w→Below w.heap.size w w'→R cs w'
 put:∀ cs (c:Ct) (vv:Value) w,R cs w→cs.length < 490→c.vs.length=n→bK w vv 2 c.vs.length (bW c.vs)→Calls Tryz.prog 61 #[.int .i64 c.st,.agg #[.int .i64 c.key.1,.int .i64 c.key.2],vv,p1,p2] w fun e w'=>e=.returned (.tuple #[])∧R (cs++[c]) w'∧KeptB w w' bad
theorem mm {a z s:Int} (h:mT a z s):∀ st∈nN a z s,-1000≤st∧st≤9999:=by
 intro st hs;unfold nN fX at hs;simp only [List.mem_map,List.mem_range] at hs;obtain ⟨i,hi,rfl⟩:=hs;have h1:=(mM h i).2 hi;have h2:=(win_rest h i hi).1;obtain ⟨a0,a1,s1,sz,z1,z4⟩:=h;omega
theorem kK {a z s:Int} (h:mT a z s):(nN a z s).length≤4:=by
 unfold nN;rw [lD];exact (mi h).2.1
theorem etake_any (R:List Ct→World→Prop) (bad:Nat→Prop) (va vw vb:Value) (q:Qy) (ps:List (AgQ×Value)) (x:Ev) (upto:Int) (known:Bool) (p1 p2:Value) (cs:List Ct) (W:World) (h:QyG W va vw vb q ps) (h4:ps.length≤4) (hn:QyN q) (hx:∀ p∈evX x,okV p)
  (hW:mT x.t q.size q.slide) (hl0:0≤q.late) (hl1:q.late≤1000) (hP:PutW R bad ps.length p1 p2) (hR:R cs W) (hbad:∀ k,bad k→k < W.heap.size) (hcs:cs.length≤480) :
  Calls Tryz.prog 46 #[qyV va vw vb q,dE x,.int .i64 upto,.bool known,.func (.func 61) #[] #[p1,p2]] W fun e w'=>e=.returned (.int .i64 (takeN q x upto known:Nat))∧R (cs++takeC q x upto known) w'∧KeptB W w' bad:=by
 unfold qyV;obtain ⟨ao,cap,rfl⟩:=am h.ag.row;obtain ⟨a2,c2,rfl⟩:=am h.wh;obtain ⟨a3,c3,rfl⟩:=am h.by_;have ba:=jR W (.cells #[.slice ao ps.length cap,.slice a2 q.wh.length c2,.slice a3 q.bys.length c3,.int .i64 q.size,.int .i64 q.slide,.int .i64 q.delay,.int .i64 q.late] 28) (.cells #[.int .i64 x.t,.int .i64 x.k1,.int .i64 x.k2,.int .i64 x.a1,.int .i64 x.a2,.int .i64 x.b1,.int .i64 x.b2] 43);have BQ:=aa (ah (ay W [.slice ao ps.length cap,.slice a2 q.wh.length c2,.slice a3 q.bys.length c3,.int .i64 q.size,.int .i64 q.slide,.int .i64 q.delay,.int .i64 q.late] 28) (aj (W.alloc (.cells #[.slice ao ps.length cap,.slice a2 q.wh.length c2,.slice a3 q.bys.length c3,.int .i64 q.size,.int .i64 q.slide,.int .i64 q.delay,.int .i64 q.late] 28)) (.cells #[.int .i64 x.t,.int .i64 x.k1,.int .i64 x.k2,.int .i64 x.a1,.int .i64 x.a2,.int .i64 x.b1,.int .i64 x.b2] 43)) (by simp));have BX:=aa (ay (W.alloc (.cells #[.slice ao ps.length cap,.slice a2 q.wh.length c2,.slice a3 q.bys.length c3,.int .i64 q.size,.int .i64 q.slide,.int .i64 q.delay,.int .i64 q.late] 28)) [.int .i64 x.t,.int .i64 x.k1,.int .i64 x.k2,.int .i64 x.a1,.int .i64 x.a2,.int .i64 x.b1,.int .i64 x.b2] 43);rw [show (W.alloc (.cells #[.slice ao ps.length cap,.slice a2 q.wh.length c2,.slice a3 q.bys.length c3,.int .i64 q.size,.int .i64 q.slide,.int .i64 q.delay,.int .i64 q.late] 28)).heap.size=W.heap.size+1 from by simp] at BX;have AK:=aa (oA (.slice ao ps.length cap) (.slice a2 q.wh.length c2) (.slice a3 q.bys.length c3) q ps x _ (aR h ba) hn hx);have HG:=aa (aR h ba);have HQA:=aa h.qa;have HBA:=aa ba;have HR:=aa (hP.below cs _ _ hR ba);have HP:=aa hP;have HN:=aa hn;have HX:=aa hx;have HW:=aa hW;obtain ⟨ws,hws⟩:∃ ws,nN x.t q.size q.slide=ws:=⟨_,rfl⟩;have HST:Hid (∀ w,Calls Tryz.prog 89 #[.int .i64 x.t,.int .i64 q.size,.int .i64 q.slide] w fun e w'=>∃ u,e=.returned u∧w'.ownsRow w.heap.size 3 1 u ws.length (ws.map (Value.int .i64))∧Below w.heap.size w w'):=fun w=>by
  rw [← hws];exact jY x.t q.size q.slide w hW
 have HIN:Hid (∀ st∈ws,-1000≤st∧st≤9999):=by
  rw [← hws];exact mm hW
 have HLEN:ws.length≤4:=by
  rw [← hws];exact kK hW
 have HT:Hid (∀ b,askQ q x=b→takeN q x upto known=(if b then em q upto known ws else 0)∧takeC q x upto known=(if b then ig q x upto known ws else [])):=fun b hb=>by
  unfold takeN takeC;rw [hb,hws];exact ⟨rfl,rfl⟩
 generalize askQ q x=b at *;generalize takeN q x upto known=N at *;generalize takeC q x upto known=C at *;unfold qyV dE at AK;unfold dE;have HBAD:=aa hbad;obtain ⟨k1,k2,hk⟩:∃ k1 k2,qo q x=(k1,k2):=⟨_,_,rfl⟩;have HK:=aa hk;clear h hn hx hW hP hR ba hbad hk hws;cases b with
 | false =>
  obtain ⟨e1,e2⟩:=HT.out false rfl;rw [if_neg (by decide)] at e1 e2;subst e1 e2
  go_enter Tryz.func46,Tryz.ntmps46
  go_wp2_with fail;refine AK.out.mono ?_;rintro e w1 ⟨rfl,hb⟩;have HR1:=HP.out.below _ _ _ HR.out hb;have HB1:=nxt HBA hb;clear hb HR AK HG;go_wp2_with fail
  go_ret
  exact ⟨rfl,by simpa using HR1,ae HB1.out⟩
 | true =>
  obtain ⟨e1,e2⟩:=HT.out true rfl;rw [if_pos rfl] at e1 e2;subst e1 e2;clear HT;have hqb:W.heap.size < ((W.alloc (.cells #[.slice ao ps.length cap,.slice a2 q.wh.length c2,.slice a3 q.bys.length c3,.int .i64 q.size,.int .i64 q.slide,.int .i64 q.delay,.int .i64 q.late] 28)).alloc (.cells #[.int .i64 x.t,.int .i64 x.k1,.int .i64 x.k2,.int .i64 x.a1,.int .i64 x.a2,.int .i64 x.b1,.int .i64 x.b2] 43)).heap.size:=BQ.out.lt;have hxb:W.heap.size+1 < ((W.alloc (.cells #[.slice ao ps.length cap,.slice a2 q.wh.length c2,.slice a3 q.bys.length c3,.int .i64 q.size,.int .i64 q.slide,.int .i64 q.delay,.int .i64 q.late] 28)).alloc (.cells #[.int .i64 x.t,.int .i64 x.k1,.int .i64 x.k2,.int .i64 x.a1,.int .i64 x.a2,.int .i64 x.b1,.int .i64 x.b2] 43)).heap.size:=BX.out.lt
  go_enter Tryz.func46,Tryz.ntmps46
  go_wp2_with fail;refine AK.out.mono ?_;rintro e w1 ⟨rfl,hb⟩;have HR1:=aa (HP.out.below _ _ _ HR.out hb);have HB1:=nxt HBA hb;have BQ1:=aa (ah BQ.out hb BQ.out.lt);have BX1:=aa (ah BX.out hb BX.out.lt);have HG1:=aa (aR HG.out hb);clear hb HR AK HG BQ BX;go_wp2_with fail;have PNH:=aa (@eJ Tryz.prog Tryz.f46 (fun e w'=>e=.returned (.int .i64 (em q upto known ws:Nat))∧R (cs++ig q x upto known ws) w'∧KeptB W w' bad));refine pq _ _ (by kernel_rfl) _ W.heap.size (W.heap.size+1) q ps x ao a2 a3 cap c2 c3 k1 k2 upto known (.func (.func 61) #[] #[p1,p2]) _ rfl rfl rfl rfl rfl rfl rfl BQ1.out BX1.out HG1.out h4 HN.out HX.out HK.out (bX PNH.out) ?_;rintro t' kb au cu w2 ht j2 j3 j4 j5 j6 j10 j11 j12 ⟨hbl,hgs,ho,hb⟩;have HR2:=aa (HP.out.below _ _ _ HR1.out hb);have HB2:=nxt HB1 hb;have hW1:=HB1.out.size;have BQ2:=aa (ah BQ1.out hb BQ1.out.lt);have BX2:=aa (ah BX1.out hb BX1.out.lt);have HBL:=aa hbl;have HO:=aa ho;have hkb:kb < w2.heap.size:=hbl.lt;have hsz2:W.heap.size+1 < w2.heap.size:=BX2.out.lt;obtain ⟨f,hf,hi⟩:=dU t' ht;have e2:=aq (hi 2 (by decide)) j2;have e3:=aq (hi 3 (by decide)) j3;have e4:=aq (hi 4 (by decide)) j4;have e5:=aq (hi 5 (by decide)) j5;have e6:=aq (hi 6 (by decide)) j6;have e10:=aq (hi 10 (by decide)) j10;have e11:=aq (hi 11 (by decide)) j11;have e12:=aq (hi 12 (by decide)) j12;rw [e2,e3,e4,e5,e6,e10,e11,e12] at hf;clear hi ht j2 j3 j4 j5 j6 j10 j11 j12 e2 e3 e4 e5 e6 e10 e11 e12 PNH HR1 HB1 BQ1 BX1 HG1 hbl ho;subst hf;refine aQ ?_;rename_i K9 hK9;refine hK9 _ _ ?_;clear hK9;have x0:w2.cell? ⟨W.heap.size+1,0,none⟩=some (.int .i64 x.t):=BX2.out.c 0 (by simp);have q3:w2.cell? ⟨W.heap.size,3,none⟩=some (.int .i64 q.size):=BQ2.out.c 3 (by simp);have q4:w2.cell? ⟨W.heap.size,4,none⟩=some (.int .i64 q.slide):=BQ2.out.c 4 (by simp);go_wp2_with fail;refine (HST.out _).mono ?_;rintro e w3 ⟨u,rfl,hos,hb3⟩;obtain ⟨au3,cu3,rfl⟩:=ax hos;have HR3:=aa (HP.out.below _ _ _ HR2.out hb3);have HB3:=nxt HB2 hb3;have BQ3:=aa (ah BQ2.out hb3 BQ2.out.lt);have HBL3:=aa (ah HBL.out hb3 HBL.out.lt);have HO3:=aa (aB HO.out hb3 (Nat.le_refl _));have HS3:=aa hos;obtain ⟨-,-,hs1,hs2,hs3,-⟩:=HW.out;have HVL:Hid ((valsQ q x).length=ps.length):=by
   show _=_
   unfold valsQ;rw [List.length_map,← HQA.out,List.length_map]
  have hle1:W.heap.size≤w1.heap.size:=by omega
  have hle2:W.heap.size < w2.heap.size:=by omega
  clear HST hos hb3 HR2 HB2 BQ2 BX2 HBL HO x0 q3 q4 hb HX HN HW HQA HBA hqb hxb hsz2;go_wp2_with fail
  go_loopw [10,33] (fun l i wr=>∃ (m N:Nat) (C:List Ct),m≤ws.length∧N≤m∧l=.int .i64 N∧i=.int .i64 m∧Hid (R C wr)∧Hid (C++ig q x upto known (ws.drop m)=cs++ig q x upto known ws)∧Hid (N+em q upto known (ws.drop m)=em q upto known ws)∧Hid (KeptB w3 wr bad)∧C.length≤cs.length+m) (fun _ i _=>ws.length - (intOf i).toNat)
  case atStart=>exact ⟨0,0,cs,Nat.zero_le _,Nat.le_refl _,rfl,rfl,HR3,by show _=_;simp,by show _=_;simp,ae (Below.refl _ _),by omega⟩
  case round =>
   clear HR3;obtain ⟨m,N,C,hm,hN,rfl,rfl,HR,HC,HNN,KB,hcl⟩:=hrel
   by_cases hlt:m < ws.length
   ·have hso:=bf HS3.out KB.out (fun k e h9=>by have:=(aJ HS3.out k e).1;have:=HBAD.out k h9;omega);obtain ⟨g,off,y,hao,hy,y0,z1,z2,z3⟩:=cL (aD hso) m hlt;subst hao;have hst:=HIN.out ws[m] (List.getElem_mem hlt);have hdr:ws.drop m=ws[m] :: ws.drop (m+1):=List.drop_eq_getElem_cons hlt;rw [hdr,m6] at HC;rw [hdr,jO] at HNN;rw [List.getElem?_map,List.getElem?_eq_getElem hlt] at hy;simp only [Option.map_some,Option.some.injEq] at hy;subst hy;clear hdr hso;generalize ws[m]=st at *;obtain ⟨b1,b2⟩:=hst;unfold maxLen at z2;have BQr:=aa (aH BQ3.out KB.out (fun h9=>by have:=HBAD.out _ h9;omega));have q3:wr.cell? ⟨W.heap.size,3,none⟩=some (.int .i64 q.size):=BQr.out.c 3 (by simp);have q6:wr.cell? ⟨W.heap.size,6,none⟩=some (.int .i64 q.late):=BQr.out.c 6 (by simp);have lq:=BQr.out.lt;have BLr:=aa (aH HBL3.out KB.out (fun h9=>by have:=HBAD.out _ h9;omega));have g0:wr.cell? ⟨kb,0,none⟩=some (.int .i64 k1):=BLr.out.c 0 (by simp);have g1:wr.cell? ⟨kb,1,none⟩=some (.int .i64 k2):=BLr.out.c 1 (by simp);have lk:=BLr.out.lt;have PC:=aa (HP.out.put C ⟨st,(k1,k2),valsQ q x⟩ (.slice au (valsQ q x).length cu) wr HR.out (by omega) HVL.out (aD (bf HO3.out KB.out (fun k e h9=>by have:=(aJ HO3.out k e).1;have:=HBAD.out k h9;omega))));clear BQr BLr;have hn8:N≤4:=by omega
    have HLB:Hid (∀ b,eQ q upto known st=b→C++((if b then [] else [⟨st,(k1,k2),valsQ q x⟩])++ig q x upto known (ws.drop (m+1)))=cs++ig q x upto known ws∧((if b then 1 else 0)+em q upto known (ws.drop (m+1))+N=em q upto known ws)):=fun b hb=>by
     have e1:=HC.out;have e2:=HNN.out;rw [hb,HK.out] at e1;rw [hb] at e2;exact ⟨e1,by omega⟩
    clear HC HNN;obtain ⟨b,hlb⟩:∃ b,eQ q upto known st=b:=⟨_,rfl⟩;obtain ⟨e1,e2⟩:=HLB.out b hlb;clear HLB;have LATE:b=true→∀ l,l=Value.int .i64 ((N+1:Nat):Int)→True:=fun _ _ _=>trivial
    clear LATE;cases known with
    | false =>
     have hb0:b=false:=by rw [← hlb];rfl
     subst hb0;rw [if_neg (by decide)] at e1 e2;have E1:=aa e1;have E2:=aa e2;clear e1 e2 hlb;go_wp2_with fail;refine PC.out.mono ?_;rintro e w4 ⟨rfl,hr4,hk4⟩;have HR4:=aa hr4;have KB4:=aa (af KB.out hk4);clear hr4 hk4 PC;go_wp2_with fail;go_roundw
     case rel=>exact ⟨m+1,N,C++[⟨st,(k1,k2),valsQ q x⟩],by omega,by omega,rfl,by go_num,HR4,by show _=_;simpa using E1.out,by have:=E2.out;show _=_;omega,KB4,by simp;omega⟩
     case measure=>simp [intOf];omega
    | true =>
     by_cases hd:st+q.size+q.late≤upto
     ·have hb0:b=true:=by rw [← hlb];simp [eQ,hd]
      subst hb0;rw [if_pos rfl] at e1 e2;have E1:=aa e1;have E2:=aa e2;clear e1 e2 hlb PC;have dd:decide (st+q.size+q.late≤upto)=true:=by simp [hd]
      go_wp2_with fail;go_roundw
      case rel=>exact ⟨m+1,N+1,C,by omega,by omega,by go_num,by go_num,HR,by show _=_;simpa using E1.out,by have:=E2.out;show _=_;omega,KB,by omega⟩
      case measure=>simp [intOf];omega
     ·have hb0:b=false:=by rw [← hlb];simp [eQ,hd]
      subst hb0;have dd:decide (st+q.size+q.late≤upto)=false:=by simp [hd]
      rw [if_neg (by decide)] at e1 e2;have E1:=aa e1;have E2:=aa e2;clear e1 e2 hlb;go_wp2_with fail;refine PC.out.mono ?_;rintro e w4 ⟨rfl,hr4,hk4⟩;have HR4:=aa hr4;have KB4:=aa (af KB.out hk4);clear hr4 hk4 PC;go_wp2_with fail;go_roundw
      case rel=>exact ⟨m+1,N,C++[⟨st,(k1,k2),valsQ q x⟩],by omega,by omega,rfl,by go_num,HR4,by show _=_;simpa using E1.out,by have:=E2.out;show _=_;omega,KB4,by simp;omega⟩
      case measure=>simp [intOf];omega
   ·have hme:m=ws.length:=by omega
    subst hme;have E1:C=cs++ig q x upto known ws:=by
     have:=HC.out
     rw [List.drop_length] at this
     simpa [ig] using this
    have E2:N=em q upto known ws:=by
     have:=HNN.out
     rw [List.drop_length] at this
     simpa [em] using this
    subst E1 E2;go_wp2_with fail
    go_ret
    exact ⟨rfl,HR.out,af (ae HB3.out) KB.out⟩
end Go.Proofs.YtcgjflamgnjhcaaGreatDoor

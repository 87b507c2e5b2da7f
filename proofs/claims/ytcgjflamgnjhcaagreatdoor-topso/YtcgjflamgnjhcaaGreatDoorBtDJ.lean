/- Own texts in one. Conditions: as named in each. -/
import Derived.Test.YtcgjflamgnjhcaaGreatDoorBtBJ
import Derived.Test.YtcgjflamgnjhcaaGreatDoorPrs1J
import Derived.Test.YtcgjflamgnjhcaaGreatDoorKinJ
set_option linter.unusedVariables false
set_option linter.unusedSimpArgs false
set_option maxRecDepth 100000
set_option maxHeartbeats 8000000
namespace Go.Proofs.YtcgjflamgnjhcaaGreatDoor
open Go.ChangeShapes Go.WideShapes Go.ChangeAt Go.RowKit
theorem mem_insAt {α:Type} {l:List α} {i:Nat} {a p:α} (h:p∈l.take i++a :: l.drop i):p=a∨p∈l:=by
 rcases List.mem_append.1 h with h | h
 ·exact .inr (List.mem_of_mem_take h)
 ·rcases List.mem_cons.1 h with h | h
  ·exact .inl h
  ·exact .inr (List.mem_of_mem_drop h)
theorem add_q (B:Nat) (ks:List Int) (cs:List Ct) (tbl:List Pn) (tv:Value) (c:Ct) (kv vv:Value) (w:World) (hB:B≤w.heap.size) (hT:TblR w tv tbl) (hO:OfT ks cs tbl) (hf:∀ p∈tbl,bu B p.av) (hcs:cs.length < 490) (hk4:ks.length≤4)
  (hkk:∀ x∈ks,1≤x∧x≤5) (hvs:∀ d∈cs,d.vs.length=ks.length) (hkr:bK w kv 1 ks.length (ks.map (Value.int .i64))) (hv:bK w vv 2 c.vs.length (bW c.vs)) (hvl:c.vs.length=ks.length) :
  Calls Tryz.prog 62 #[.agg #[tv],.int .i64 c.st,.agg #[.int .i64 c.key.1,.int .i64 c.key.2],kv,vv] w fun e w'=>∃ u e1 b tbl',e=.returned (.tuple #[.agg #[u],e1,.bool b]) ∧
   TblR w' u tbl'∧OfT ks (cs++[c]) tbl'∧bu B u∧(∀ p∈tbl',bu B p.av)∧Below w.heap.size w w':=by
 have hl:tbl.length≤500:=by have:=hO.few;omega
 by_cases hin:∃ p∈tbl,p.st=c.st∧p.k=c.key.1∧p.n=c.key.2
 ·obtain ⟨p,hp,hk⟩:=hin;obtain ⟨j,hj,rfl⟩:=List.mem_iff_getElem.1 hp;have ha:=(hO.acc tbl[j] hp).2.1;have hvk:∀ d∈ofK tbl[j].st tbl[j].k tbl[j].n cs,d.vs.length=ks.length:=fun d hd=>hvs d (List.mem_filter.1 hd).1
  have hal:tbl[j].ac.length=ks.length:=by rw [ha];exact jz ks _ hvk
  have hak:∀ a∈tbl[j].ac,1≤a.k∧a.k≤5∧0≤a.n∧a.n≤1000:=fun a h9=>by
   rw [ha] at h9;have h8:=iH ks hkk _ a h9
   have:=oQ tbl[j].st tbl[j].k tbl[j].n cs
   exact ⟨h8.1,h8.2.1,h8.2.2.1,by omega⟩
  refine (add_old tbl tv c.st c.key.1 c.key.2 kv c.vs vv w hT hl hO.rise j hj hk (by omega) hak hv (by rw [hvl,hal])).mono ?_;rintro e w' ⟨u,av,av2,rfl,h1,-,⟨h3,h4⟩,hb⟩;refine ⟨u,_,_,_,rfl,h1,ofT_old hO c j hj av hk,fun k hk=>Nat.le_trans hB (h3 k hk),fun p hp=>?_,hb⟩
  rcases List.mem_or_eq_of_mem_set hp with hp | rfl
  ·exact hf p hp
  ·exact fun k hk=>Nat.le_trans hB (h4 k hk)
 ·have hno:∀ p∈tbl,¬ (p.st=c.st∧p.k=c.key.1∧p.n=c.key.2):=fun p hp h=>hin ⟨p,hp,h⟩
  refine (pe tbl tv c.st c.key.1 c.key.2 ks kv c.vs vv w hT hl hO.rise (by omega) hkr hkk hv hvl hno).mono ?_;rintro e w' ⟨i,u,av,hi,rfl,h1,h2,⟨h3,h4⟩,hb⟩;refine ⟨u,_,_,_,rfl,h1,ofT_new hO c i hi av hno h2,fun k hk=>Nat.le_trans hB (h3 k hk),fun p hp=>?_,hb⟩
  rcases mem_insAt hp with rfl | hp
  ·exact fun k hk=>Nat.le_trans hB (h4 k hk)
  ·exact hf p hp
structure TabW (W0:World) (bt qb:Nat) (va vw vb:Value) (q:Qy) (ps:List (AgQ×Value)) (cs:List Ct) (w:World):Prop where
 tb:∃ tv tbl,BlkAt w bt [tv]∧TblR w tv tbl∧OfT (q.aggs.map AgQ.kind) cs tbl∧bu (bt+1) tv∧∀ p∈tbl,bu (bt+1) p.av
 vs:∀ d∈cs,d.vs.length=ps.length
 qx:BlkAt w qb [va,vw,vb,.int .i64 q.size,.int .i64 q.slide,.int .i64 q.delay,.int .i64 q.late]
 old:Below W0.heap.size W0 w
theorem tabW_below {W0:World} {bt qb:Nat} {va vw vb:Value} {q:Qy} {ps:List (AgQ×Value)} {cs:List Ct} {w w':World} (h:TabW W0 bt qb va vw vb q ps cs w) (hb:Below w.heap.size w w'):TabW W0 bt qb va vw vb q ps cs w':=by
 obtain ⟨⟨tv,tbl,h1,h2,h3,h4,h5⟩,h6,h7,h8⟩:=h;exact ⟨⟨tv,tbl,ah h1 hb h1.lt,bL h2 hb,h3,h4,h5⟩,h6,ah h7 hb h7.lt,h8.trans (hb.mono h8.size)⟩
theorem put_any (W0:World) (bt qb:Nat) (va vw vb:Value) (q:Qy) (ps:List (AgQ×Value)) (hne:bt≠qb) (hbt0:W0.heap.size≤bt) (hq0:QyG W0 va vw vb q ps) (h4:ps.length≤4) (hkk:∀ a∈q.aggs,1≤a.kind∧a.kind≤5) :
  PutW (TabW W0 bt qb va vw vb q ps) (fun k=>k=bt) ps.length (.pointer (some ⟨bt,0,none⟩)) (.pointer (some ⟨qb,0,none⟩)):=by
 refine ⟨fun cs w w' h hb=>tabW_below h hb,fun cs c vv w h hcs hvl hv=>?_⟩;obtain ⟨⟨tv,tbl,h1,h2,h3,h4',h5⟩,h6,h7,hold⟩:=h;have h8:=aR hq0 hold;clear hq0;have hql:(q.aggs.map AgQ.kind).length=ps.length:=by rw [← h8.qa];simp
 have hkk2:∀ x∈q.aggs.map AgQ.kind,1≤x∧x≤5:=fun x hx=>by
  obtain ⟨a,ha,rfl⟩:=List.mem_map.1 hx;exact hkk a ha
 obtain ⟨ao,cap,rfl⟩:=am h8.ag.row;obtain ⟨a2,c2,rfl⟩:=am h8.wh;obtain ⟨a3,c3,rfl⟩:=am h8.by_;obtain ⟨at_,ct,rfl⟩:=aF h2.row;obtain ⟨av,cv,rfl⟩:=am hv;have bk:=aj w (.cells #[.int .i64 c.key.1,.int .i64 c.key.2] 41);have HBK:=aa bk;have BK:=aa (ay w [.int .i64 c.key.1,.int .i64 c.key.2] 41);have BT:=aa (ah h1 bk h1.lt);have BQ:=aa (ah h7 bk h7.lt);have HOLD:=aa (hold.trans (bk.mono hold.size));have HV:=aa h6;have HVL:=aa hvl;have hqb:Hid (¬ qb=bt):=fun e=>hne e.symm
 have hbt:bt < w.heap.size:=h1.lt;have hkb:Hid (¬ w.heap.size=bt):=fun e=>by omega
 have KO:Hid (∀ w',Below (w.alloc (.cells #[.int .i64 c.key.1,.int .i64 c.key.2] 41)).heap.size (w.alloc (.cells #[.int .i64 c.key.1,.int .i64 c.key.2] 41)) w'→Calls Tryz.prog 63 #[.agg #[Value.slice ao ps.length cap,Value.slice a2 q.wh.length c2,Value.slice a3 q.bys.length c3,Value.int .i64 q.size,Value.int .i64 q.slide,Value.int .i64 q.delay,Value.int .i64 q.late]] w' fun e w''=>∃ u,e=.returned u∧w''.ownsRow w'.heap.size 3 1 u (q.aggs.map AgQ.kind).length ((q.aggs.map AgQ.kind).map (Value.int .i64))∧Below w'.heap.size w' w''):=fun w' hb=>lM _ _ _ q ps w' (aR (aR h8 bk) hb) h4
 have AO:Hid (∀ w' kv,Below (w.alloc (.cells #[.int .i64 c.key.1,.int .i64 c.key.2] 41)).heap.size (w.alloc (.cells #[.int .i64 c.key.1,.int .i64 c.key.2] 41)) w'→bK w' kv 1 (q.aggs.map AgQ.kind).length ((q.aggs.map AgQ.kind).map (Value.int .i64))→Calls Tryz.prog 62 #[.agg #[.slice at_ tbl.length ct],.int .i64 c.st,.agg #[.int .i64 c.key.1,.int .i64 c.key.2],kv,.slice av c.vs.length cv] w' fun e w''=>∃ u e1 b tbl',e=.returned (.tuple #[.agg #[u],e1,.bool b]) ∧
   TblR w'' u tbl'∧OfT (q.aggs.map AgQ.kind) (cs++[c]) tbl'∧bu (bt+1) u∧(∀ p∈tbl',bu (bt+1) p.av)∧Below w'.heap.size w' w''):=fun w' kv hb hr =>
  add_q (bt+1) (q.aggs.map AgQ.kind) cs tbl _ c kv _ w' (by have:=bk.size;have:=hb.size;omega) (bL (bL h2 bk) hb) h3 h5 hcs (by rw [hql];exact h4) hkk2 (fun d hd=>by rw [hql];exact h6 d hd) hr (aA (aA hv bk) hb) (by rw [hql];exact hvl)
 clear h1 h2 h3 h4' h5 h6 h7 h8 hv bk hvl hkk hkk2 hql hold;generalize hKS:q.aggs.map AgQ.kind=KS at *;have HKS:=aa hKS;clear hKS
 go_enter Tryz.func61,Tryz.ntmps61
 go_wp2_with fail;generalize w.alloc (.cells #[.int .i64 c.key.1,.int .i64 c.key.2] 41)=wk at *;refine wp_region_held (S:=fun w'=>KeptB wk w' (fun k=>k=bt)) (by kernel_rfl) ?_;have HBd:Hid (Below wk.heap.size wk ({ wk with drawn:=wk.drawn+1 }:World)):=(Below.refl _ _).drew;have hS:KeptB wk ({ wk with drawn:=wk.drawn+1 }:World) (fun k=>k=bt):=ae HBd.out;generalize ({ wk with drawn:=wk.drawn+1 }:World)=wd at *;refine HU 1 (v:=.int .i64 c.st) rfl (fun wq hq=>by go_simp) hS ?_;refine HU 2 (v:=.agg #[.int .i64 c.key.1,.int .i64 c.key.2]) rfl (fun wq hq=>by have K:=aH BK.out hq hkb.out;have q0:wq.cell? ⟨_,0,none⟩=some (.int .i64 c.key.1):=K.c 0 (by simp);have q1:wq.cell? ⟨_,1,none⟩=some (.int .i64 c.key.2):=K.c 1 (by simp);clear K;go_simp) hS ?_;refine HU 3 (v:=.agg #[Value.slice ao ps.length cap,Value.slice a2 q.wh.length c2,Value.slice a3 q.bys.length c3,Value.int .i64 q.size,Value.int .i64 q.slide,Value.int .i64 q.delay,Value.int .i64 q.late]) rfl (fun wq hq=>by have K:=aH BQ.out hq hqb.out;have q0:wq.cell? ⟨_,0,none⟩=some (Value.slice ao ps.length cap):=K.c 0 (by simp);have q1:wq.cell? ⟨_,1,none⟩=some (Value.slice a2 q.wh.length c2):=K.c 1 (by simp);have q2:wq.cell? ⟨_,2,none⟩=some (Value.slice a3 q.bys.length c3):=K.c 2 (by simp);have q3:wq.cell? ⟨_,3,none⟩=some (Value.int .i64 q.size):=K.c 3 (by simp);have q4:wq.cell? ⟨_,4,none⟩=some (Value.int .i64 q.slide):=K.c 4 (by simp);have q5:wq.cell? ⟨_,5,none⟩=some (Value.int .i64 q.delay):=K.c 5 (by simp);have q6:wq.cell? ⟨_,6,none⟩=some (Value.int .i64 q.late):=K.c 6 (by simp);clear K;go_simp) hS ?_;refine HU 5 (v:=.slice av c.vs.length cv) rfl (fun wq hq=>by go_simp) hS ?_;refine H2 0 4 rfl rfl ?_ ?_
 ·intro K' hK;have t0:wd.cell? ⟨bt,0,none⟩=some (.slice at_ tbl.length ct):=(ah BT.out HBd.out BT.out.lt).c 0 (by simp);go_simp;refine hK _ _ ⟨hS,?_⟩;clear hK t0;refine HG 4 rfl ?_;intro K' hK;go_simp;refine (KO.out _ HBd.out).mono ?_;rintro e w1 ⟨uk,rfl,ho,hb⟩;have HB1:=aa (HBd.out.trans (hb.mono HBd.out.size));have hS1:KeptB wk w1 (fun k=>k=bt):=ae HB1.out;obtain ⟨ak,ck,rfl⟩:=ax ho;have HO:=aa ho;have KR:=aa (aD ho);refine hK _ _ ⟨hS1,?_⟩;clear hK hb ho;refine HG 6 rfl ?_;intro K' hK;go_simp;refine (AO.out _ _ HB1.out KR.out).mono ?_;rintro e w2 ⟨u,e1,b,tbl',rfl,ht2,ho2,hu2,hf2,hb⟩;have HB2:=aa (HB1.out.trans (hb.mono HB1.out.size));have hS2:KeptB wk w2 (fun k=>k=bt):=ae HB2.out;obtain ⟨au,cu,rfl⟩:=aF ht2.row;have HT2:=aa ht2;have HO2:=aa ho2;have HU2:=aa hu2;have HF2:=aa hf2;refine hK _ _ ⟨hS2,?_⟩;clear hK hb ht2 ho2 hu2 hf2 KR AO;refine HG 7 rfl ?_;intro K' hK;go_simp;refine hK _ _ ⟨hS2,?_⟩;clear hK;refine HU 8 (v:=.agg #[.slice au tbl'.length cu]) rfl (fun wq hq=>by go_simp) hS2 ?_;refine HU 9 (v:=e1) rfl (fun wq hq=>by go_simp) hS2 ?_;refine HU 10 (v:=.bool b) rfl (fun wq hq=>by go_simp) hS2 ?_;have BT2:=aa (ah BT.out HB2.out BT.out.lt);have f0:=BT2.out.fz 0;have t0:w2.cell? ⟨bt,0,none⟩=some (.slice at_ tbl.length ct):=BT2.out.c 0 (by simp);have hS3:KeptB wk (w2.setCell ⟨bt,0,none⟩ (.slice au tbl'.length cu)) (fun k=>k=bt):=ai hS2 rfl 0 _;have K23:Hid (KeptB w2 (w2.setCell ⟨bt,0,none⟩ (.slice au tbl'.length cu)) (fun k=>k=bt)):=ai (ae (bad:=fun k=>k=bt) (Below.refl w2.heap.size w2)) rfl 0 _;have B3:=aa (az BT2.out 0 (.slice au tbl'.length cu) (by simp));refine HG 11 rfl ?_;intro K' hK;go_simp;refine hK _ _ ⟨hS3,?_⟩;clear hK;refine wpAnyH_done (by kernel_rfl) ?_ _;have HS3:=aa hS3;clear hS hS1 hS2 hS3 t0 f0;go_wp2_with fail;refine bodyPost_end (results_none rfl _ _ _) rfl ?_;refine ⟨rfl,?_,af (ae HBK.out) HS3.out⟩;exact ⟨⟨_,tbl',by simpa using B3.out,⟨aX HT2.out.row K23.out (fun k hk e=>by have:=HU2.out k hk;omega),fun p hp=>aX (HT2.out.acc p hp) K23.out (fun k hk e=>by have:=HF2.out p hp k hk;omega)⟩,(by rw [HKS.out];exact HO2.out),HU2.out,HF2.out⟩,fun d hd=>(by rcases List.mem_append.1 hd with hd | hd;exact HV.out d hd;rw [List.mem_singleton.1 hd];exact HVL.out),aH BQ.out HS3.out hqb.out,HOLD.out.trans (aL HS3.out HOLD.out.size (fun k e=>by rw [e];exact hbt0))⟩
 ·intro K' hK;go_simp;refine (KO.out _ HBd.out).mono ?_;rintro e w1 ⟨uk,rfl,ho,hb⟩;have HB1:=aa (HBd.out.trans (hb.mono HBd.out.size));have hS1:KeptB wk w1 (fun k=>k=bt):=ae HB1.out;obtain ⟨ak,ck,rfl⟩:=ax ho;have HO:=aa ho;have KR:=aa (aD ho);refine hK _ _ ⟨hS1,?_⟩;clear hK hb ho;refine HG 0 rfl ?_;intro K' hK;have t0:w1.cell? ⟨bt,0,none⟩=some (.slice at_ tbl.length ct):=(ah BT.out HB1.out BT.out.lt).c 0 (by simp);go_simp;refine hK _ _ ⟨hS1,?_⟩;clear hK t0;refine HG 6 rfl ?_;intro K' hK;go_simp;refine (AO.out _ _ HB1.out KR.out).mono ?_;rintro e w2 ⟨u,e1,b,tbl',rfl,ht2,ho2,hu2,hf2,hb⟩;have HB2:=aa (HB1.out.trans (hb.mono HB1.out.size));have hS2:KeptB wk w2 (fun k=>k=bt):=ae HB2.out;obtain ⟨au,cu,rfl⟩:=aF ht2.row;have HT2:=aa ht2;have HO2:=aa ho2;have HU2:=aa hu2;have HF2:=aa hf2;refine hK _ _ ⟨hS2,?_⟩;clear hK hb ht2 ho2 hu2 hf2 KR AO;refine HG 7 rfl ?_;intro K' hK;go_simp;refine hK _ _ ⟨hS2,?_⟩;clear hK;refine HU 8 (v:=.agg #[.slice au tbl'.length cu]) rfl (fun wq hq=>by go_simp) hS2 ?_;refine HU 9 (v:=e1) rfl (fun wq hq=>by go_simp) hS2 ?_;refine HU 10 (v:=.bool b) rfl (fun wq hq=>by go_simp) hS2 ?_;have BT2:=aa (ah BT.out HB2.out BT.out.lt);have f0:=BT2.out.fz 0;have t0:w2.cell? ⟨bt,0,none⟩=some (.slice at_ tbl.length ct):=BT2.out.c 0 (by simp);have hS3:KeptB wk (w2.setCell ⟨bt,0,none⟩ (.slice au tbl'.length cu)) (fun k=>k=bt):=ai hS2 rfl 0 _;have K23:Hid (KeptB w2 (w2.setCell ⟨bt,0,none⟩ (.slice au tbl'.length cu)) (fun k=>k=bt)):=ai (ae (bad:=fun k=>k=bt) (Below.refl w2.heap.size w2)) rfl 0 _;have B3:=aa (az BT2.out 0 (.slice au tbl'.length cu) (by simp));refine HG 11 rfl ?_;intro K' hK;go_simp;refine hK _ _ ⟨hS3,?_⟩;clear hK;refine wpAnyH_done (by kernel_rfl) ?_ _;have HS3:=aa hS3;clear hS hS1 hS2 hS3 t0 f0;go_wp2_with fail;refine bodyPost_end (results_none rfl _ _ _) rfl ?_;refine ⟨rfl,?_,af (ae HBK.out) HS3.out⟩;exact ⟨⟨_,tbl',by simpa using B3.out,⟨aX HT2.out.row K23.out (fun k hk e=>by have:=HU2.out k hk;omega),fun p hp=>aX (HT2.out.acc p hp) K23.out (fun k hk e=>by have:=HF2.out p hp k hk;omega)⟩,(by rw [HKS.out];exact HO2.out),HU2.out,HF2.out⟩,fun d hd=>(by rcases List.mem_append.1 hd with hd | hd;exact HV.out d hd;rw [List.mem_singleton.1 hd];exact HVL.out),aH BQ.out HS3.out hqb.out,HOLD.out.trans (aL HS3.out HOLD.out.size (fun k e=>by rw [e];exact hbt0))⟩
def nY (B:Nat) (ks:List Int) (tb:List Pn) (c:Ct) (tb':List Pn) (wp:Pn):Prop :=
 (∃ (j:Nat) (hj:j < tb.length) (av:Value),(tb[j].st=c.st∧tb[j].k=c.key.1∧tb[j].n=c.key.2)∧tb'=tb.set j ⟨c.st,c.key.1,c.key.2,tb[j].told,d8 tb[j].ac c.vs,av⟩∧bu B av∧(wp.st=c.st∧wp.k=c.key.1∧wp.n=c.key.2)∧wp.told=tb[j].told∧wp.ac=tb[j].ac) ∨
 ((∀ p∈tb,¬ (p.st=c.st∧p.k=c.key.1∧p.n=c.key.2))∧(∃ (i:Nat) (av:Value),i≤tb.length∧tb'=tb.take i++⟨c.st,c.key.1,c.key.2,false,d8 (ks.map gM) c.vs,av⟩ :: tb.drop i∧bu B av)∧iw tb'∧wp.told=false)
theorem aM {B B':Nat} {v:Value} (h:bu B v) (hB:B'≤B):bu B' v:=fun k hk=>Nat.le_trans hB (h k hk)
theorem cG {B B':Nat} {ks:List Int} {tb tb':List Pn} {c:Ct} {wp:Pn} (h:nY B ks tb c tb' wp) (hB:B'≤B):nY B' ks tb c tb' wp:=by
 rcases h with ⟨j,hj,av,h1,h2,h3,h4⟩ | ⟨h1,⟨i,av,h2,h3,h4⟩,h5⟩
 ·exact .inl ⟨j,hj,av,h1,h2,aM h3 hB,h4⟩
 ·exact .inr ⟨h1,⟨i,av,h2,h3,aM h4 hB⟩,h5⟩
structure TbOk (ks:List Int) (tb:List Pn):Prop where
 few:tb.length≤490
 rise:iw tb
 acc:∀ p∈tb,p.ac.length=ks.length∧∀ a∈p.ac,1≤a.k∧a.k≤5∧0≤a.n∧a.n≤1000
theorem add_e (ks:List Int) (tb:List Pn) (tv:Value) (c:Ct) (kv vv:Value) (w:World) (hT:TblR w tv tb) (hO:TbOk ks tb) (hk4:ks.length≤4) (hkk:∀ x∈ks,1≤x∧x≤5) (hkr:bK w kv 1 ks.length (ks.map (Value.int .i64))) (hv:bK w vv 2 c.vs.length (bW c.vs)) (hvl:c.vs.length=ks.length) :
  Calls Tryz.prog 62 #[.agg #[tv],.int .i64 c.st,.agg #[.int .i64 c.key.1,.int .i64 c.key.2],kv,vv] w fun e w'=>∃ u wp b tb',e=.returned (.tuple #[.agg #[u],eo wp,.bool b])∧TblR w' u tb'∧jH w' wp∧bu w.heap.size u∧bu w.heap.size wp.av∧nY w.heap.size ks tb c tb' wp∧Below w.heap.size w w':=by
 have hl:tb.length≤500:=by have:=hO.few;omega
 by_cases hin:∃ p∈tb,p.st=c.st∧p.k=c.key.1∧p.n=c.key.2
 ·obtain ⟨p,hp,hk⟩:=hin;obtain ⟨j,hj,rfl⟩:=List.mem_iff_getElem.1 hp;obtain ⟨a1,a2⟩:=hO.acc tb[j] hp;refine (nj tb tv c.st c.key.1 c.key.2 kv c.vs vv w hT hl hO.rise j hj hk (by omega) a2 hv (by rw [hvl,a1])).mono ?_;rintro e w' ⟨u,av,av2,rfl,h1,h2,⟨h3,h4,h5⟩,hb⟩;exact ⟨u,_,_,_,rfl,h1,h2,h3,h5,.inl ⟨j,hj,av,hk,rfl,h4,⟨rfl,rfl,rfl⟩,rfl,rfl⟩,hb⟩
 ·have hno:∀ p∈tb,¬ (p.st=c.st∧p.k=c.key.1∧p.n=c.key.2):=fun p hp h=>hin ⟨p,hp,h⟩
  refine (pe tb tv c.st c.key.1 c.key.2 ks kv c.vs vv w hT hl hO.rise (by omega) hkr hkk hv hvl hno).mono ?_;rintro e w' ⟨i,u,av,hi,rfl,h1,h2,⟨h3,h4⟩,hb⟩;exact ⟨u,⟨0,0,0,false,[],.slice none 0 0⟩,_,_,rfl,h1,⟨rfl,.inl ⟨rfl,rfl⟩⟩,h3,fun k hk=>by simp [Value.ownBlock] at hk,.inr ⟨hno,⟨i,av,hi,rfl,h4⟩,h2,rfl⟩,hb⟩
theorem du {w:World} {size n:Nat} {v:Value} {xs:List Value} (h:gi w v size n xs) {k:Nat} (hk:v.ownBlock=some k):k < w.heap.size:=by
 obtain ⟨_,h⟩:=h
 rcases h with ⟨h1,_⟩ | ⟨g,off,cap,h1,_,_,h4,_⟩
 ·rw [h1] at hk
  simp [Value.ownBlock] at hk
 ·rw [h1] at hk;have:g=k:=by simpa [Value.ownBlock] using hk
  omega
theorem cJ {w0 w w':World} {tv u:Value} {tb tb':List Pn} {ks:List Int} {c:Ct} {wp:Pn} (hT0:TblR w0 tv tb) (h0:w0.heap.size≤w.heap.size) (hT:TblR w' u tb') (hA:jH w' wp) (hu:bu w.heap.size u) (hw:bu w.heap.size wp.av) (ha:nY w.heap.size ks tb c tb' wp) :
  ∀ k,(w0.heap.size≤k∧k < w.heap.size)∨w'.heap.size≤k→u.ownBlock≠some k∧(∀ p∈tb',p.av.ownBlock≠some k)∧wp.av.ownBlock≠some k:=fun k hk=>by
 refine ⟨fun e=>?_,fun p hp e=>?_,fun e=>?_⟩
 ·have h1:=hu k e;have h2:=du hT.row e;omega
 ·have h2:=du (hT.acc p hp) e;have hm:p∈tb∨bu w.heap.size p.av:=by
   rcases ha with ⟨j,hj,av,-,rfl,h3,-⟩ | ⟨-,⟨i,av,-,rfl,h3⟩,-⟩
   ·rcases List.mem_or_eq_of_mem_set hp with hp | rfl
    ·exact .inl hp
    ·exact .inr h3
   ·rw [List.mem_append,List.mem_cons] at hp
    rcases hp with hp | rfl | hp
    ·exact .inl (List.mem_of_mem_take hp)
    ·exact .inr h3
    ·exact .inl (List.mem_of_mem_drop hp)
  rcases hm with hm | hm
  ·have h1:=du (hT0.acc p hm) e;omega
  ·have h1:=hm k e;omega
 ·have h1:=hw k e;have h2:=du hA e;omega
theorem aI {w w':World} {g:Nat} {C:List Value} (h:BlkAt w g C) (hb:Below w.heap.size w w'):BlkAt w' g C:=ah h hb h.lt
theorem dG {w w':World} {v:Value} {ps:List Pn} (h:TblR w v ps) (hb:Below w.heap.size w w'):TblR w' v ps:=bL h hb
theorem eF {w w':World} {p:Pn} (h:jH w p) (hb:Below w.heap.size w w'):jH w' p:=bp h hb
theorem cD {w w':World} {v:Value} {ps:List Pn} {bad:Nat→Prop} (h:TblR w v ps) (hk:KeptB w w' bad) (h1:∀ k,v.ownBlock=some k→¬ bad k) (h2:∀ p∈ps,∀ k,p.av.ownBlock=some k→¬ bad k):TblR w' v ps :=
 ⟨aX h.row hk h1,fun p hp=>aX (h.acc p hp) hk (h2 p hp)⟩
theorem r1_end {w w9:World} {tb_ wb_:Nat} {u:Value} {tb':List Pn} {ws wk wn:Int} {wt:Bool} {wac:List Ac} {wav:Value} {z0 z1 z2 z3 z4 z5:Value} (hb:Below w.heap.size w w9) (hne:tb_≠wb_) (y1:w.heap.size≤tb_) (y2:w.heap.size≤wb_) (BT:BlkAt w9 tb_ [z0]) (BW:BlkAt w9 wb_ [z1,z2,z3,z4,z5])
  (TT:TblR w9 u tb') (AA:jH w9 ⟨ws,wk,wn,wt,wac,wav⟩) (dT:u.ownBlock≠some tb_∧(∀ p∈tb',p.av.ownBlock≠some tb_)∧wav.ownBlock≠some tb_) (dW:u.ownBlock≠some wb_∧(∀ p∈tb',p.av.ownBlock≠some wb_)∧wav.ownBlock≠some wb_) :
  let wE:=(((((w9.setCell ⟨tb_,0,none⟩ u).setCell ⟨wb_,0,none⟩ (.int .i64 ws)).setCell ⟨wb_,1,none⟩ (.int .i64 wk)).setCell ⟨wb_,2,none⟩ (.int .i64 wn)).setCell ⟨wb_,3,none⟩ wav).setCell ⟨wb_,4,none⟩ (.bool wt)
  BlkAt wE tb_ [u]∧BlkAt wE wb_ [.int .i64 ws,.int .i64 wk,.int .i64 wn,wav,.bool wt]∧TblR wE u tb'∧jH wE ⟨ws,wk,wn,wt,wac,wav⟩∧Below w.heap.size w wE:=by
 have K1:=ai (ae (bad:=fun k=>k=tb_∨k=wb_) (Below.refl w9.heap.size w9)) (g:=tb_) (.inl rfl) 0 u;have K:=ai (ai (ai (ai (ai K1 (g:=wb_) (.inr rfl) 0 (.int .i64 ws)) (g:=wb_) (.inr rfl) 1 (.int .i64 wk)) (g:=wb_) (.inr rfl) 2 (.int .i64 wn)) (g:=wb_) (.inr rfl) 3 wav) (g:=wb_) (.inr rfl) 4 (.bool wt);have BT1:=az BT 0 u (by simp);have KT:=ai (ai (ai (ai (ai (ae (bad:=fun k=>k=wb_) (Below.refl _ (w9.setCell ⟨tb_,0,none⟩ u))) (g:=wb_) rfl 0 (.int .i64 ws)) (g:=wb_) rfl 1 (.int .i64 wk)) (g:=wb_) rfl 2 (.int .i64 wn)) (g:=wb_) rfl 3 wav) (g:=wb_) rfl 4 (.bool wt);have BW1:=aH BW (ai (ae (bad:=fun k=>k=tb_) (Below.refl w9.heap.size w9)) (g:=tb_) rfl 0 u) (fun e=>hne e.symm);refine ⟨by simpa using aH BT1 KT hne,by simpa using az (az (az (az (az BW1 0 (.int .i64 ws) (by simp)) 1 (.int .i64 wk) (by simp)) 2 (.int .i64 wn) (by simp)) 3 wav (by simp)) 4 (.bool wt) (by simp),?_,?_,?_⟩
 ·refine cD TT K (fun k hk e=>?_) (fun p hp k hk e=>?_)
  ·rcases e with rfl | rfl
   ·exact dT.1 hk
   ·exact dW.1 hk
  ·rcases e with rfl | rfl
   ·exact dT.2.1 p hp hk
   ·exact dW.2.1 p hp hk
 ·refine aX AA K (fun k hk e=>?_)
  rcases e with rfl | rfl
  ·exact dT.2.2 hk
  ·exact dW.2.2 hk
 ·exact hb.trans (aL K hb.size (by rintro k (rfl | rfl) <;> assumption))
section
variable {P:Program} {md:Region.Mode} {ops:Array Oper} {Q:Exit→Act→World→Prop} {S:World→Prop}
theorem fL {i j k:Nat} {oi oj ok:Oper} {fuel:Nat} {listed Li Lj Lk:Array Bool} {a:Act} {w:World} (hr:Region.ready md ops listed=[i,j,k]) (hoi:ops[i]?=some oi) (hoj:ops[j]?=some oj) (hok:ops[k]?=some ok)
  (hwi:Region.wanted oi (yielded ops a.tmps)=true) (hwj:Region.wanted oj (yielded ops a.tmps)=true) (hwk:Region.wanted ok (yielded ops a.tmps)=true) (hLi:listed.setIfInBounds i true=Li) (hLj:listed.setIfInBounds j true=Lj) (hLk:listed.setIfInBounds k true=Lk)
  (hi:∀ K':Act→World→Prop,(∀ a' w',(S w'∧wpAnyH P md ops Q S fuel Li a' w')→K' a' w')→Oper.wp P oi a w K' Q)
  (hj:∀ K':Act→World→Prop,(∀ a' w',(S w'∧wpAnyH P md ops Q S fuel Lj a' w')→K' a' w')→Oper.wp P oj a w K' Q)
  (hk:∀ K':Act→World→Prop,(∀ a' w',(S w'∧wpAnyH P md ops Q S fuel Lk a' w')→K' a' w')→Oper.wp P ok a w K' Q):wpAnyH P md ops Q S (fuel+1) listed a w :=
 wpAnyH_all hr (by simp) (fun x hx=>by
  rcases List.mem_cons.1 hx with rfl | hx
  ·exact wpOp_step hoi (fun K' hK=>by rw [if_pos hwi];exact hi K' (fun a' w' q=>hK a' w' ⟨q.1,by rw [hLi];exact q.2⟩))
  ·rcases List.mem_cons.1 hx with rfl | hx
   ·exact wpOp_step hoj (fun K' hK=>by rw [if_pos hwj];exact hj K' (fun a' w' q=>hK a' w' ⟨q.1,by rw [hLj];exact q.2⟩))
   ·rw [List.mem_singleton] at hx;subst hx;exact wpOp_step hok (fun K' hK=>by rw [if_pos hwk];exact hk K' (fun a' w' q=>hK a' w' ⟨q.1,by rw [hLk];exact q.2⟩)))
end
end Go.Proofs.YtcgjflamgnjhcaaGreatDoor

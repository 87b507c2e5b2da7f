/- Several texts in one, each with its own head. What is proved: what the parts say. Conditions: theirs. -/
import Derived.Test.YtaomljdbndajgaaGreatDoorBtBJ
set_option linter.unusedVariables false
set_option linter.unusedSimpArgs false
set_option maxRecDepth 100000
set_option maxHeartbeats 8000000
namespace Go.Proofs.YtaomljdbndajgaaGreatDoor
open Go.ChangeShapes Go.WideShapes Go.ChangeAt Go.RowKit
theorem mem_insAt {α : Type} {l : List α} {i : Nat} {a p : α} (h : p ∈ l.take i ++ a :: l.drop i) : p = a ∨ p ∈ l:=by
 rcases List.mem_append.1 h with h | h
 ·exact .inr (List.mem_of_mem_take h)
 ·rcases List.mem_cons.1 h with h | h
  ·exact .inl h
  ·exact .inr (List.mem_of_mem_drop h)
theorem add_q (B : Nat) (ks : List Int) (cs : List Ct) (tbl : List Pn) (tv : Value) (c : Ct) (kv vv : Value) (w : World) (hB : B ≤ w.heap.size) (hT : TblR w tv tbl) (hO : OfT ks cs tbl) (hf : ∀ p ∈ tbl,FromB B p.av) (hcs : cs.length < 490) (hk4 : ks.length ≤ 4)
  (hkk : ∀ x ∈ ks,1 ≤ x ∧ x ≤ 5) (hvs : ∀ d ∈ cs,d.vs.length = ks.length) (hkr : RowG w kv 1 ks.length (ks.map (Value.int .i64))) (hv : RowG w vv 2 c.vs.length (rowV c.vs)) (hvl : c.vs.length = ks.length) :
  Calls Tryz.prog 25 #[.agg #[tv],.int .i64 c.st,.agg #[.int .i64 c.key.1,.int .i64 c.key.2],kv,vv] w fun e w' => ∃ u e1 b tbl',e = .returned (.tuple #[.agg #[u],e1,.bool b]) ∧
   TblR w' u tbl' ∧ OfT ks (cs ++ [c]) tbl' ∧ FromB B u ∧ (∀ p ∈ tbl',FromB B p.av) ∧ Below w.heap.size w w':=by
 have hl : tbl.length ≤ 500:=by have:=hO.few;omega
 by_cases hin : ∃ p ∈ tbl,p.st = c.st ∧ p.k = c.key.1 ∧ p.n = c.key.2
 ·obtain ⟨p,hp,hk⟩:=hin
  obtain ⟨j,hj,rfl⟩:=List.mem_iff_getElem.1 hp
  have ha:=(hO.acc tbl[j] hp).2.1
  have hvk : ∀ d ∈ ofK tbl[j].st tbl[j].k tbl[j].n cs,d.vs.length = ks.length:=fun d hd => hvs d (List.mem_filter.1 hd).1
  have hal : tbl[j].ac.length = ks.length:=by rw [ha];exact accOf_len ks _ hvk
  have hak : ∀ a ∈ tbl[j].ac,1 ≤ a.k ∧ a.k ≤ 5 ∧ 0 ≤ a.n ∧ a.n ≤ 1000:=fun a h9 => by
   rw [ha] at h9
   have h8:=accOf_ok ks hkk _ a h9
   have:=ofK_len tbl[j].st tbl[j].k tbl[j].n cs
   exact ⟨h8.1,h8.2.1,h8.2.2.1,by omega⟩
  refine (add_old tbl tv c.st c.key.1 c.key.2 kv c.vs vv w hT hl hO.rise j hj hk (by omega) hak hv (by rw [hvl,hal])).mono ?_
  rintro e w' ⟨u,av,av2,rfl,h1,-,⟨h3,h4⟩,hb⟩
  refine ⟨u,_,_,_,rfl,h1,ofT_old hO c j hj av hk,fun k hk => Nat.le_trans hB (h3 k hk),fun p hp => ?_,hb⟩
  rcases List.mem_or_eq_of_mem_set hp with hp | rfl
  ·exact hf p hp
  ·exact fun k hk => Nat.le_trans hB (h4 k hk)
 ·have hno : ∀ p ∈ tbl,¬ (p.st = c.st ∧ p.k = c.key.1 ∧ p.n = c.key.2):=fun p hp h => hin ⟨p,hp,h⟩
  refine (add_new tbl tv c.st c.key.1 c.key.2 ks kv c.vs vv w hT hl hO.rise (by omega) hkr hkk hv hvl hno).mono ?_
  rintro e w' ⟨i,u,av,hi,rfl,h1,h2,⟨h3,h4⟩,hb⟩
  refine ⟨u,_,_,_,rfl,h1,ofT_new hO c i hi av hno h2,fun k hk => Nat.le_trans hB (h3 k hk),fun p hp => ?_,hb⟩
  rcases mem_insAt hp with rfl | hp
  ·exact fun k hk => Nat.le_trans hB (h4 k hk)
  ·exact hf p hp
structure TabW (W0 : World) (bt qb : Nat) (va vw vb : Value) (q : Qy) (ps : List (AgQ × Value)) (cs : List Ct) (w : World) : Prop where
 tb : ∃ tv tbl,BlkAt w bt [tv] ∧ TblR w tv tbl ∧ OfT (q.aggs.map AgQ.kind) cs tbl ∧ FromB (bt + 1) tv ∧ ∀ p ∈ tbl,FromB (bt + 1) p.av
 vs : ∀ d ∈ cs,d.vs.length = ps.length
 qx : BlkAt w qb [va,vw,vb,.int .i64 q.size,.int .i64 q.slide,.int .i64 q.delay,.int .i64 q.late]
 old : Below W0.heap.size W0 w
theorem tabW_below {W0 : World} {bt qb : Nat} {va vw vb : Value} {q : Qy} {ps : List (AgQ × Value)} {cs : List Ct} {w w' : World} (h : TabW W0 bt qb va vw vb q ps cs w) (hb : Below w.heap.size w w') : TabW W0 bt qb va vw vb q ps cs w':=by
 obtain ⟨⟨tv,tbl,h1,h2,h3,h4,h5⟩,h6,h7,h8⟩:=h
 exact ⟨⟨tv,tbl,blk_below h1 hb h1.lt,tblR_below h2 hb,h3,h4,h5⟩,h6,blk_below h7 hb h7.lt,h8.trans (hb.mono h8.size)⟩
theorem put_any (W0 : World) (bt qb : Nat) (va vw vb : Value) (q : Qy) (ps : List (AgQ × Value)) (hne : bt ≠ qb) (hbt0 : W0.heap.size ≤ bt) (hq0 : QyG W0 va vw vb q ps) (h4 : ps.length ≤ 4) (hkk : ∀ a ∈ q.aggs,1 ≤ a.kind ∧ a.kind ≤ 5) :
  PutW (TabW W0 bt qb va vw vb q ps) (fun k => k = bt) ps.length (.pointer (some ⟨bt,0,none⟩)) (.pointer (some ⟨qb,0,none⟩)):=by
 refine ⟨fun cs w w' h hb => tabW_below h hb,fun cs c vv w h hcs hvl hv => ?_⟩
 obtain ⟨⟨tv,tbl,h1,h2,h3,h4',h5⟩,h6,h7,hold⟩:=h
 have h8:=qyG_below hq0 hold
 clear hq0
 have hql : (q.aggs.map AgQ.kind).length = ps.length:=by rw [← h8.qa];simp
 have hkk2 : ∀ x ∈ q.aggs.map AgQ.kind,1 ≤ x ∧ x ≤ 5:=fun x hx => by
  obtain ⟨a,ha,rfl⟩:=List.mem_map.1 hx
  exact hkk a ha
 obtain ⟨ao,cap,rfl⟩:=rowG_shape h8.ag.row
 obtain ⟨a2,c2,rfl⟩:=rowG_shape h8.wh
 obtain ⟨a3,c3,rfl⟩:=rowG_shape h8.by_
 obtain ⟨at_,ct,rfl⟩:=rowS_shape h2.row
 obtain ⟨av,cv,rfl⟩:=rowG_shape hv
 have bk:=below_alloc w (.cells #[.int .i64 c.key.1,.int .i64 c.key.2] 26)
 have HBK:=hidE bk
 have BK:=hidE (blk_alloc w [.int .i64 c.key.1,.int .i64 c.key.2] 26)
 have BT:=hidE (blk_below h1 bk h1.lt)
 have BQ:=hidE (blk_below h7 bk h7.lt)
 have HOLD:=hidE (hold.trans (bk.mono hold.size))
 have HV:=hidE h6
 have HVL:=hidE hvl
 have hqb : Hid (¬ qb = bt):=fun e => hne e.symm
 have hbt : bt < w.heap.size:=h1.lt
 have hkb : Hid (¬ w.heap.size = bt):=fun e => by omega
 have KO : Hid (∀ w',Below (w.alloc (.cells #[.int .i64 c.key.1,.int .i64 c.key.2] 26)).heap.size (w.alloc (.cells #[.int .i64 c.key.1,.int .i64 c.key.2] 26)) w' → Calls Tryz.prog 26 #[.agg #[Value.slice ao ps.length cap,Value.slice a2 q.wh.length c2,Value.slice a3 q.bys.length c3,Value.int .i64 q.size,Value.int .i64 q.slide,Value.int .i64 q.delay,Value.int .i64 q.late]] w' fun e w'' => ∃ u,e = .returned u ∧ w''.ownsRow w'.heap.size 3 1 u (q.aggs.map AgQ.kind).length ((q.aggs.map AgQ.kind).map (Value.int .i64)) ∧ Below w'.heap.size w' w''):=fun w' hb => kinds_any _ _ _ q ps w' (qyG_below (qyG_below h8 bk) hb) h4
 have AO : Hid (∀ w' kv,Below (w.alloc (.cells #[.int .i64 c.key.1,.int .i64 c.key.2] 26)).heap.size (w.alloc (.cells #[.int .i64 c.key.1,.int .i64 c.key.2] 26)) w' → RowG w' kv 1 (q.aggs.map AgQ.kind).length ((q.aggs.map AgQ.kind).map (Value.int .i64)) → Calls Tryz.prog 25 #[.agg #[.slice at_ tbl.length ct],.int .i64 c.st,.agg #[.int .i64 c.key.1,.int .i64 c.key.2],kv,.slice av c.vs.length cv] w' fun e w'' => ∃ u e1 b tbl',e = .returned (.tuple #[.agg #[u],e1,.bool b]) ∧
   TblR w'' u tbl' ∧ OfT (q.aggs.map AgQ.kind) (cs ++ [c]) tbl' ∧ FromB (bt + 1) u ∧ (∀ p ∈ tbl',FromB (bt + 1) p.av) ∧ Below w'.heap.size w' w''):=fun w' kv hb hr =>
  add_q (bt + 1) (q.aggs.map AgQ.kind) cs tbl _ c kv _ w' (by have:=bk.size;have:=hb.size;omega) (tblR_below (tblR_below h2 bk) hb) h3 h5 hcs (by rw [hql];exact h4) hkk2 (fun d hd => by rw [hql];exact h6 d hd) hr (rowG_below (rowG_below hv bk) hb) (by rw [hql];exact hvl)
 clear h1 h2 h3 h4' h5 h6 h7 h8 hv bk hvl hkk hkk2 hql hold
 generalize hKS : q.aggs.map AgQ.kind = KS at *
 have HKS:=hidE hKS
 clear hKS
 go_enter Tryz.func24,Tryz.ntmps24
 go_wp2_with fail
 generalize w.alloc (.cells #[.int .i64 c.key.1,.int .i64 c.key.2] 26) = wk at *
 refine wp_region_held (S:=fun w' => KeptB wk w' (fun k => k = bt)) (by kernel_rfl) ?_
 have HBd : Hid (Below wk.heap.size wk ({ wk with drawn:=wk.drawn + 1 } : World)):=(Below.refl _ _).drew
 have hS : KeptB wk ({ wk with drawn:=wk.drawn + 1 } : World) (fun k => k = bt):=keptB_of_below HBd.out
 generalize ({ wk with drawn:=wk.drawn + 1 } : World) = wd at *
 refine held_take (i:=1) (v:=.int .i64 c.st) (L:=#[false,true,false,false,false,false,false,false,false,false,false,false]) rfl (by kernel_rfl) (by kernel_rfl) (by kernel_rfl) (fun c a w h => h) (Or.inl ⟨by kernel_rfl,fun wq hq => by go_simp⟩) hS (by kernel_rfl) ?_
 refine held_take (i:=2) (v:=.agg #[.int .i64 c.key.1,.int .i64 c.key.2]) (L:=#[false,true,true,false,false,false,false,false,false,false,false,false]) rfl (by kernel_rfl) (by kernel_rfl) (by kernel_rfl) (fun c a w h => h) (Or.inl ⟨by kernel_rfl,fun wq hq => by have K:=blk_kept BK.out hq hkb.out;have q0 : wq.cell? ⟨_,0,none⟩ = some (.int .i64 c.key.1):=K.c 0 (by simp);have q1 : wq.cell? ⟨_,1,none⟩ = some (.int .i64 c.key.2):=K.c 1 (by simp);clear K;go_simp⟩) hS (by kernel_rfl) ?_
 refine held_take (i:=3) (v:=.agg #[Value.slice ao ps.length cap,Value.slice a2 q.wh.length c2,Value.slice a3 q.bys.length c3,Value.int .i64 q.size,Value.int .i64 q.slide,Value.int .i64 q.delay,Value.int .i64 q.late]) (L:=#[false,true,true,true,false,false,false,false,false,false,false,false]) rfl (by kernel_rfl) (by kernel_rfl) (by kernel_rfl) (fun c a w h => h) (Or.inl ⟨by kernel_rfl,fun wq hq => by have K:=blk_kept BQ.out hq hqb.out;have q0 : wq.cell? ⟨_,0,none⟩ = some (Value.slice ao ps.length cap):=K.c 0 (by simp);have q1 : wq.cell? ⟨_,1,none⟩ = some (Value.slice a2 q.wh.length c2):=K.c 1 (by simp);have q2 : wq.cell? ⟨_,2,none⟩ = some (Value.slice a3 q.bys.length c3):=K.c 2 (by simp);have q3 : wq.cell? ⟨_,3,none⟩ = some (Value.int .i64 q.size):=K.c 3 (by simp);have q4 : wq.cell? ⟨_,4,none⟩ = some (Value.int .i64 q.slide):=K.c 4 (by simp);have q5 : wq.cell? ⟨_,5,none⟩ = some (Value.int .i64 q.delay):=K.c 5 (by simp);have q6 : wq.cell? ⟨_,6,none⟩ = some (Value.int .i64 q.late):=K.c 6 (by simp);clear K;go_simp⟩) hS (by kernel_rfl) ?_
 refine held_take (i:=5) (v:=.slice av c.vs.length cv) (L:=#[false,true,true,true,false,true,false,false,false,false,false,false]) rfl (by kernel_rfl) (by kernel_rfl) (by kernel_rfl) (fun c a w h => h) (Or.inl ⟨by kernel_rfl,fun wq hq => by go_simp⟩) hS (by kernel_rfl) ?_
 refine held_two (i:=0) (j:=4) (Li:=#[true,true,true,true,false,true,false,false,false,false,false,false]) (Lj:=#[false,true,true,true,true,true,false,false,false,false,false,false]) (by kernel_rfl) rfl rfl (by kernel_rfl) (by kernel_rfl) (by kernel_rfl) (by kernel_rfl) ?_ ?_
 ·intro K' hK
  have t0 : wd.cell? ⟨bt,0,none⟩ = some (.slice at_ tbl.length ct):=(blk_below BT.out HBd.out BT.out.lt).c 0 (by simp)
  go_simp
  refine hK _ _ ⟨hS,?_⟩
  clear hK t0
  refine held_go (i:=4) (L:=#[true,true,true,true,true,true,false,false,false,false,false,false]) (by kernel_rfl) rfl (by kernel_rfl) (by kernel_rfl) ?_
  intro K' hK
  go_simp
  refine (KO.out _ HBd.out).mono ?_
  rintro e w1 ⟨uk,rfl,ho,hb⟩
  have HB1:=hidE (HBd.out.trans (hb.mono HBd.out.size))
  have hS1 : KeptB wk w1 (fun k => k = bt):=keptB_of_below HB1.out
  obtain ⟨ak,ck,rfl⟩:=owns_shapeE ho
  have HO:=hidE ho
  have KR:=hidE (rowG_of_owns ho)
  refine hK _ _ ⟨hS1,?_⟩
  clear hK hb ho
  refine held_go (i:=6) (L:=#[true,true,true,true,true,true,true,false,false,false,false,false]) (by kernel_rfl) rfl (by kernel_rfl) (by kernel_rfl) ?_
  intro K' hK
  go_simp
  refine (AO.out _ _ HB1.out KR.out).mono ?_
  rintro e w2 ⟨u,e1,b,tbl',rfl,ht2,ho2,hu2,hf2,hb⟩
  have HB2:=hidE (HB1.out.trans (hb.mono HB1.out.size))
  have hS2 : KeptB wk w2 (fun k => k = bt):=keptB_of_below HB2.out
  obtain ⟨au,cu,rfl⟩:=rowS_shape ht2.row
  have HT2:=hidE ht2
  have HO2:=hidE ho2
  have HU2:=hidE hu2
  have HF2:=hidE hf2
  refine hK _ _ ⟨hS2,?_⟩
  clear hK hb ht2 ho2 hu2 hf2 KR AO
  refine held_go (i:=7) (L:=#[true,true,true,true,true,true,true,true,false,false,false,false]) (by kernel_rfl) rfl (by kernel_rfl) (by kernel_rfl) ?_
  intro K' hK
  go_simp
  refine hK _ _ ⟨hS2,?_⟩
  clear hK
  refine held_take (i:=8) (v:=.agg #[.slice au tbl'.length cu]) (L:=#[true,true,true,true,true,true,true,true,true,false,false,false]) rfl (by kernel_rfl) (by kernel_rfl) (by kernel_rfl) (fun c a w h => h) (Or.inl ⟨by kernel_rfl,fun wq hq => by go_simp⟩) hS2 (by kernel_rfl) ?_
  refine held_take (i:=9) (v:=e1) (L:=#[true,true,true,true,true,true,true,true,true,true,false,false]) rfl (by kernel_rfl) (by kernel_rfl) (by kernel_rfl) (fun c a w h => h) (Or.inl ⟨by kernel_rfl,fun wq hq => by go_simp⟩) hS2 (by kernel_rfl) ?_
  refine held_take (i:=10) (v:=.bool b) (L:=#[true,true,true,true,true,true,true,true,true,true,true,false]) rfl (by kernel_rfl) (by kernel_rfl) (by kernel_rfl) (fun c a w h => h) (Or.inl ⟨by kernel_rfl,fun wq hq => by go_simp⟩) hS2 (by kernel_rfl) ?_
  have BT2:=hidE (blk_below BT.out HB2.out BT.out.lt)
  have f0:=BT2.out.fz 0
  have t0 : w2.cell? ⟨bt,0,none⟩ = some (.slice at_ tbl.length ct):=BT2.out.c 0 (by simp)
  have hS3 : KeptB wk (w2.setCell ⟨bt,0,none⟩ (.slice au tbl'.length cu)) (fun k => k = bt):=keptB_set hS2 rfl 0 _
  have K23 : Hid (KeptB w2 (w2.setCell ⟨bt,0,none⟩ (.slice au tbl'.length cu)) (fun k => k = bt)):=keptB_set (keptB_of_below (bad:=fun k => k = bt) (Below.refl w2.heap.size w2)) rfl 0 _
  have B3:=hidE (blk_set BT2.out 0 (.slice au tbl'.length cu) (by simp))
  refine held_go (i:=11) (L:=#[true,true,true,true,true,true,true,true,true,true,true,true]) (by kernel_rfl) rfl (by kernel_rfl) (by kernel_rfl) ?_
  intro K' hK
  go_simp
  refine hK _ _ ⟨hS3,?_⟩
  clear hK
  refine wpAnyH_done (by kernel_rfl) ?_ _
  have HS3:=hidE hS3
  clear hS hS1 hS2 hS3 t0 f0
  go_wp2_with fail
  refine bodyPost_end (results_none rfl _ _ _) rfl ?_
  refine ⟨rfl,?_,keptB_trans (keptB_of_below HBK.out) HS3.out⟩
  exact ⟨⟨_,tbl',by simpa using B3.out,⟨rowS_kept HT2.out.row K23.out (fun k hk e => by have:=HU2.out k hk;omega),fun p hp => rowS_kept (HT2.out.acc p hp) K23.out (fun k hk e => by have:=HF2.out p hp k hk;omega)⟩,(by rw [HKS.out];exact HO2.out),HU2.out,HF2.out⟩,fun d hd => (by rcases List.mem_append.1 hd with hd | hd;exact HV.out d hd;rw [List.mem_singleton.1 hd];exact HVL.out),blk_kept BQ.out HS3.out hqb.out,HOLD.out.trans (keptB_below HS3.out HOLD.out.size (fun k e => by rw [e];exact hbt0))⟩
 ·intro K' hK
  go_simp
  refine (KO.out _ HBd.out).mono ?_
  rintro e w1 ⟨uk,rfl,ho,hb⟩
  have HB1:=hidE (HBd.out.trans (hb.mono HBd.out.size))
  have hS1 : KeptB wk w1 (fun k => k = bt):=keptB_of_below HB1.out
  obtain ⟨ak,ck,rfl⟩:=owns_shapeE ho
  have HO:=hidE ho
  have KR:=hidE (rowG_of_owns ho)
  refine hK _ _ ⟨hS1,?_⟩
  clear hK hb ho
  refine held_go (i:=0) (L:=#[true,true,true,true,true,true,false,false,false,false,false,false]) (by kernel_rfl) rfl (by kernel_rfl) (by kernel_rfl) ?_
  intro K' hK
  have t0 : w1.cell? ⟨bt,0,none⟩ = some (.slice at_ tbl.length ct):=(blk_below BT.out HB1.out BT.out.lt).c 0 (by simp)
  go_simp
  refine hK _ _ ⟨hS1,?_⟩
  clear hK t0
  refine held_go (i:=6) (L:=#[true,true,true,true,true,true,true,false,false,false,false,false]) (by kernel_rfl) rfl (by kernel_rfl) (by kernel_rfl) ?_
  intro K' hK
  go_simp
  refine (AO.out _ _ HB1.out KR.out).mono ?_
  rintro e w2 ⟨u,e1,b,tbl',rfl,ht2,ho2,hu2,hf2,hb⟩
  have HB2:=hidE (HB1.out.trans (hb.mono HB1.out.size))
  have hS2 : KeptB wk w2 (fun k => k = bt):=keptB_of_below HB2.out
  obtain ⟨au,cu,rfl⟩:=rowS_shape ht2.row
  have HT2:=hidE ht2
  have HO2:=hidE ho2
  have HU2:=hidE hu2
  have HF2:=hidE hf2
  refine hK _ _ ⟨hS2,?_⟩
  clear hK hb ht2 ho2 hu2 hf2 KR AO
  refine held_go (i:=7) (L:=#[true,true,true,true,true,true,true,true,false,false,false,false]) (by kernel_rfl) rfl (by kernel_rfl) (by kernel_rfl) ?_
  intro K' hK
  go_simp
  refine hK _ _ ⟨hS2,?_⟩
  clear hK
  refine held_take (i:=8) (v:=.agg #[.slice au tbl'.length cu]) (L:=#[true,true,true,true,true,true,true,true,true,false,false,false]) rfl (by kernel_rfl) (by kernel_rfl) (by kernel_rfl) (fun c a w h => h) (Or.inl ⟨by kernel_rfl,fun wq hq => by go_simp⟩) hS2 (by kernel_rfl) ?_
  refine held_take (i:=9) (v:=e1) (L:=#[true,true,true,true,true,true,true,true,true,true,false,false]) rfl (by kernel_rfl) (by kernel_rfl) (by kernel_rfl) (fun c a w h => h) (Or.inl ⟨by kernel_rfl,fun wq hq => by go_simp⟩) hS2 (by kernel_rfl) ?_
  refine held_take (i:=10) (v:=.bool b) (L:=#[true,true,true,true,true,true,true,true,true,true,true,false]) rfl (by kernel_rfl) (by kernel_rfl) (by kernel_rfl) (fun c a w h => h) (Or.inl ⟨by kernel_rfl,fun wq hq => by go_simp⟩) hS2 (by kernel_rfl) ?_
  have BT2:=hidE (blk_below BT.out HB2.out BT.out.lt)
  have f0:=BT2.out.fz 0
  have t0 : w2.cell? ⟨bt,0,none⟩ = some (.slice at_ tbl.length ct):=BT2.out.c 0 (by simp)
  have hS3 : KeptB wk (w2.setCell ⟨bt,0,none⟩ (.slice au tbl'.length cu)) (fun k => k = bt):=keptB_set hS2 rfl 0 _
  have K23 : Hid (KeptB w2 (w2.setCell ⟨bt,0,none⟩ (.slice au tbl'.length cu)) (fun k => k = bt)):=keptB_set (keptB_of_below (bad:=fun k => k = bt) (Below.refl w2.heap.size w2)) rfl 0 _
  have B3:=hidE (blk_set BT2.out 0 (.slice au tbl'.length cu) (by simp))
  refine held_go (i:=11) (L:=#[true,true,true,true,true,true,true,true,true,true,true,true]) (by kernel_rfl) rfl (by kernel_rfl) (by kernel_rfl) ?_
  intro K' hK
  go_simp
  refine hK _ _ ⟨hS3,?_⟩
  clear hK
  refine wpAnyH_done (by kernel_rfl) ?_ _
  have HS3:=hidE hS3
  clear hS hS1 hS2 hS3 t0 f0
  go_wp2_with fail
  refine bodyPost_end (results_none rfl _ _ _) rfl ?_
  refine ⟨rfl,?_,keptB_trans (keptB_of_below HBK.out) HS3.out⟩
  exact ⟨⟨_,tbl',by simpa using B3.out,⟨rowS_kept HT2.out.row K23.out (fun k hk e => by have:=HU2.out k hk;omega),fun p hp => rowS_kept (HT2.out.acc p hp) K23.out (fun k hk e => by have:=HF2.out p hp k hk;omega)⟩,(by rw [HKS.out];exact HO2.out),HU2.out,HF2.out⟩,fun d hd => (by rcases List.mem_append.1 hd with hd | hd;exact HV.out d hd;rw [List.mem_singleton.1 hd];exact HVL.out),blk_kept BQ.out HS3.out hqb.out,HOLD.out.trans (keptB_below HS3.out HOLD.out.size (fun k e => by rw [e];exact hbt0))⟩
theorem fldC_vok {k n : Int} (h : fldC k n = 0) : vok k n = true:=by
 unfold fldC at h
 by_cases h1 : vok k n = false
 ·rw [if_pos h1] at h
  omega
 ·simpa using h1
theorem ev_ok {x : Ev} (h : evC x = 0) : (∀ p ∈ evX x,okV p) ∧ 0 ≤ x.t ∧ x.t ≤ 9999:=by
 have h1 : 0 ≤ x.t:=by
  unfold evC at h
  by_cases h1 : x.t < 0
  ·rw [if_pos h1] at h;omega
  ·omega
 have h2 : x.t ≤ 9999:=by
  unfold evC at h
  rw [if_neg (by omega)] at h
  by_cases h3 : 9999 < x.t
  ·rw [if_pos h3] at h;omega
  ·omega
 unfold evC at h
 rw [if_neg (by omega),if_neg (by omega)] at h
 have h3 : fldC x.k1 x.k2 = 0:=by
  by_cases h3 : fldC x.k1 x.k2 = 0
  ·exact h3
  ·rw [if_pos h3] at h;exact absurd h h3
 rw [if_neg (by simp [h3])] at h
 have h4 : fldC x.a1 x.a2 = 0:=by
  by_cases h4 : fldC x.a1 x.a2 = 0
  ·exact h4
  ·rw [if_pos h4] at h;exact absurd h h4
 rw [if_neg (by simp [h4])] at h
 refine ⟨fun p hp => ?_,h1,h2⟩
 simp only [evX,evE,List.mem_cons,List.not_mem_nil,or_false] at hp
 rcases hp with rfl | rfl | rfl | rfl
 ·unfold okV numV numK numN vok
  rw [if_pos (by omega),if_pos (by omega)]
  simp
  omega
 ·exact fldC_vok h3
 ·exact fldC_vok h4
 ·exact fldC_vok h
theorem takeC_len {q : Qy} {x : Ev} (h : MayW x.t q.size q.slide) (u : Int) (k : Bool) : (takeC q x u k).length ≤ 4 ∧ takeN q x u k ≤ 4:=by
 unfold takeC takeN
 have:=winL_len h
 have h1:=putL_len q x u k (winL x.t q.size q.slide)
 have h2:=lateL_len q u k (winL x.t q.size q.slide)
 split
 ·exact ⟨by omega,by omega⟩
 ·exact ⟨by simp,by simp⟩
structure QyS (q : Qy) : Prop where
 s1 : 1 ≤ q.slide
 s2 : q.slide ≤ q.size
 s3 : q.size ≤ 1000
 s4 : q.size ≤ 4 * q.slide
 d0 : 0 ≤ q.delay
 d1 : q.delay ≤ 1000
 l0 : 0 ≤ q.late
 l1 : q.late ≤ 1000
theorem btake_any (R : List Ct → World → Prop) (bad : Nat → Prop) (va vw vb lv : Value) (q : Qy) (ps : List (AgQ × Value)) (l : List Ev) (p1 p2 : Value) (cs : List Ct) (W : World) (hK : ∀ w',KeptB W w' bad → QyG w' va vw vb q ps ∧ RowG w' lv 7 l.length (rowOf cellsE l)) (h4 : ps.length ≤ 4) (hn : QyN q) (hS : QyS q)
  (hP : PutW R bad ps.length p1 p2) (hR : R cs W) (hbad : ∀ k,bad k → k < W.heap.size) (hcs : cs.length + 4 * l.length ≤ 480) :
  Calls Tryz.prog 27 #[qyV va vw vb q,lv,.func (.func 24) #[] #[p1,p2]] W fun e w' => e = .returned (.int .i64 (partN q 0 false l : Nat)) ∧ R (cs ++ partC q 0 false l) w' ∧ KeptB W w' bad:=by
 unfold qyV
 have h0:=hK W (keptB_of_below (Below.refl _ _))
 obtain ⟨ao,cap,rfl⟩:=rowG_shape h0.1.ag.row
 obtain ⟨a2,c2,rfl⟩:=rowG_shape h0.1.wh
 obtain ⟨a3,c3,rfl⟩:=rowG_shape h0.1.by_
 obtain ⟨al,cl,rfl⟩:=rowG_shape h0.2
 have ba:=below_alloc W (.cells #[Value.slice ao ps.length cap,Value.slice a2 q.wh.length c2,Value.slice a3 q.bys.length c3,Value.int .i64 q.size,Value.int .i64 q.slide,Value.int .i64 q.delay,Value.int .i64 q.late] 32)
 have BQ:=hidE (blk_alloc W [Value.slice ao ps.length cap,Value.slice a2 q.wh.length c2,Value.slice a3 q.bys.length c3,Value.int .i64 q.size,Value.int .i64 q.slide,Value.int .i64 q.delay,Value.int .i64 q.late] 32)
 have HBA:=hidE ba
 have HR:=hidE (hP.below _ _ _ hR ba)
 have HP:=hidE hP
 have HN:=hidE hn
 have HSQ:=hidE hS
 have HKK:=hidE hK
 have HBAD:=hidE hbad
 have hsl:=hS.d0
 have hsl1:=hS.d1
 have hsz : W.heap.size < (W.alloc (.cells #[Value.slice ao ps.length cap,Value.slice a2 q.wh.length c2,Value.slice a3 q.bys.length c3,Value.int .i64 q.size,Value.int .i64 q.slide,Value.int .i64 q.delay,Value.int .i64 q.late] 32)).heap.size:=BQ.out.lt
 clear h0 hK hn hS hP hR hbad ba
 generalize hCT : partC q 0 false l = CT at *
 generalize hNT : partN q 0 false l = NT at *
 have HCT:=hidE hCT
 have HNT:=hidE hNT
 clear hCT hNT
 go_enter Tryz.func27,Tryz.ntmps27
 go_wp2_with fail
 generalize (W.alloc (.cells #[Value.slice ao ps.length cap,Value.slice a2 q.wh.length c2,Value.slice a3 q.bys.length c3,Value.int .i64 q.size,Value.int .i64 q.slide,Value.int .i64 q.delay,Value.int .i64 q.late] 32)) = w0 at *
 go_loopw [6,7,8,13] (fun n g k i wr => ∃ (m N : Nat) (gr : Int) (kn : Bool) (C : List Ct),m ≤ l.length ∧ N ≤ 4 * m ∧ 0 ≤ gr ∧ gr ≤ 9999 ∧ n = .int .i64 N ∧ g = .int .i64 gr ∧ k = .bool kn ∧ i = .int .i64 m ∧ Hid (R C wr) ∧ Hid (C ++ partC q gr kn (l.drop m) = cs ++ CT) ∧ Hid (N + partN q gr kn (l.drop m) = NT) ∧ Hid (KeptB w0 wr bad) ∧ C.length ≤ cs.length + 4 * m) (fun _ _ _ i _ => l.length - (intOf i).toNat)
 case atStart => exact ⟨0,0,0,false,cs,Nat.zero_le _,Nat.le_refl _,by decide,by decide,rfl,rfl,rfl,rfl,HR,by show _ = _;rw [List.drop_zero,HCT.out],by show _ = _;rw [List.drop_zero,HNT.out];omega,keptB_of_below (Below.refl _ _),by omega⟩
 case round =>
  clear HR
  obtain ⟨m,N,gr,kn,C,hm,hN,hg0,hg1,rfl,rfl,rfl,rfl,HR,HC,HNN,KB,hcl⟩:=hrel
  by_cases hlt : m < l.length
  ·have hkr:=HKK.out wr (keptB_trans (keptB_of_below HBA.out) KB.out)
   obtain ⟨g,off,hao,hcell,z1,z2,z3⟩:=rowOf_val cellsE_len hkr.2 m hlt
   subst hao
   have hdr : l.drop m = l[m] :: l.drop (m + 1):=List.drop_eq_getElem_cons hlt
   rw [hdr] at HC HNN
   have HGr:=hidE hkr.1
   clear hdr hkr
   generalize l[m] = x at *
   obtain ⟨y0,y1,y2,y3,y4,y5,y6⟩:=ev7 hcell
   unfold maxLen at z2
   have ba2:=below_alloc wr (.cells #[Value.int .i64 x.t,Value.int .i64 x.k1,Value.int .i64 x.k2,Value.int .i64 x.a1,Value.int .i64 x.a2,Value.int .i64 x.b1,Value.int .i64 x.b2] 49)
   have BX:=hidE (blk_alloc wr [Value.int .i64 x.t,Value.int .i64 x.k1,Value.int .i64 x.k2,Value.int .i64 x.a1,Value.int .i64 x.a2,Value.int .i64 x.b1,Value.int .i64 x.b2] 49)
   have SC:=srcCheck_any x (wr.alloc (.cells #[Value.int .i64 x.t,Value.int .i64 x.k1,Value.int .i64 x.k2,Value.int .i64 x.a1,Value.int .i64 x.a2,Value.int .i64 x.b1,Value.int .i64 x.b2] 49))
   unfold aggEv at SC
   have HBA2:=hidE ba2
   clear hcell ba2
   by_cases hc : evC x = 0
   ·have e9 : errV 0 = .nilIface:=rfl
    rw [hc,e9] at SC
    have SCH:=hidE SC
    obtain ⟨hx,ht0,ht1⟩:=ev_ok hc
    have hW : MayW x.t q.size q.slide:=⟨ht0,ht1,HSQ.out.s1,HSQ.out.s2,HSQ.out.s3,HSQ.out.s4⟩
    have HX:=hidE hx
    have HW:=hidE hW
    have HC1 : Hid (C ++ (takeC q x (gr - q.delay) kn ++ partC q (max gr x.t) true (l.drop (m + 1))) = cs ++ CT):=by
     have e:=HC.out
     rw [partC,if_neg (by simp [hc])] at e
     exact e
    have HN1 : Hid (N + (takeN q x (gr - q.delay) kn + partN q (max gr x.t) true (l.drop (m + 1))) = NT):=by
     have e:=HNN.out
     rw [partN,if_neg (by simp [hc])] at e
     exact e
    obtain ⟨t4,n4⟩:=takeC_len hW (gr - q.delay) kn
    clear SC hc hx hW HC HNN e9
    go_wp2_with fail
    refine SCH.out.mono ?_
    rintro e w1 ⟨rfl,hb⟩
    have hS1 : Below wr.heap.size wr w1:=HBA2.out.trans (hb.mono HBA2.out.size)
    have HR1:=hidE (HP.out.below _ _ _ HR.out hS1)
    have KB1:=hidE (keptB_trans KB.out (keptB_of_below hS1))
    have BX1:=hidE (blk_below BX.out hb BX.out.lt)
    have BQ1:=hidE (blk_kept BQ.out KB1.out (fun h9 => by have:=HBAD.out _ h9;omega))
    have hszr : W.heap.size < wr.heap.size:=Nat.lt_of_lt_of_le hsz KB.out.b0.size
    have hnx : ¬ bad wr.heap.size:=fun h9 => by have:=HBAD.out _ h9;omega
    have hs1:=hS1.size
    have TK:=hidE (etake_any R bad _ _ _ q ps x (gr - q.delay) kn p1 p2 C w1 (qyG_below HGr.out hS1) h4 HN.out HX.out HW.out HSQ.out.l0 HSQ.out.l1 HP.out HR1.out (fun k h9 => by have:=HBAD.out k h9;omega) (by omega))
    unfold qyV aggEv at TK
    have q0 : w1.cell? ⟨W.heap.size,0,none⟩ = some (Value.slice ao ps.length cap):=BQ1.out.c 0 (by simp)
    have q1 : w1.cell? ⟨W.heap.size,1,none⟩ = some (Value.slice a2 q.wh.length c2):=BQ1.out.c 1 (by simp)
    have q2 : w1.cell? ⟨W.heap.size,2,none⟩ = some (Value.slice a3 q.bys.length c3):=BQ1.out.c 2 (by simp)
    have q3 : w1.cell? ⟨W.heap.size,3,none⟩ = some (Value.int .i64 q.size):=BQ1.out.c 3 (by simp)
    have q4 : w1.cell? ⟨W.heap.size,4,none⟩ = some (Value.int .i64 q.slide):=BQ1.out.c 4 (by simp)
    have q5 : w1.cell? ⟨W.heap.size,5,none⟩ = some (Value.int .i64 q.delay):=BQ1.out.c 5 (by simp)
    have q6 : w1.cell? ⟨W.heap.size,6,none⟩ = some (Value.int .i64 q.late):=BQ1.out.c 6 (by simp)
    have x0 : w1.cell? ⟨wr.heap.size,0,none⟩ = some (Value.int .i64 x.t):=BX1.out.c 0 (by simp)
    have x1 : w1.cell? ⟨wr.heap.size,1,none⟩ = some (Value.int .i64 x.k1):=BX1.out.c 1 (by simp)
    have x2 : w1.cell? ⟨wr.heap.size,2,none⟩ = some (Value.int .i64 x.k2):=BX1.out.c 2 (by simp)
    have x3 : w1.cell? ⟨wr.heap.size,3,none⟩ = some (Value.int .i64 x.a1):=BX1.out.c 3 (by simp)
    have x4 : w1.cell? ⟨wr.heap.size,4,none⟩ = some (Value.int .i64 x.a2):=BX1.out.c 4 (by simp)
    have x5 : w1.cell? ⟨wr.heap.size,5,none⟩ = some (Value.int .i64 x.b1):=BX1.out.c 5 (by simp)
    have x6 : w1.cell? ⟨wr.heap.size,6,none⟩ = some (Value.int .i64 x.b2):=BX1.out.c 6 (by simp)
    have lq:=BQ1.out.lt
    have lx:=BX1.out.lt
    clear hb hS1 SCH HR KB BX HGr HBA2 y0 y1 y2 y3 y4 y5 y6
    generalize takeC q x (gr - q.delay) kn = TC at *
    generalize takeN q x (gr - q.delay) kn = TN at *
    go_wp2_with fail
    refine TK.out.mono ?_
    rintro e w2 ⟨rfl,hr2,hk2⟩
    have HR2:=hidE hr2
    have KB2:=hidE (keptB_trans KB1.out hk2)
    have X0 : w2.cell? ⟨wr.heap.size,0,none⟩ = some (Value.int .i64 x.t):=(blk_kept BX1.out hk2 hnx).c 0 (by simp)
    have lx2 : wr.heap.size < w2.heap.size:=(blk_kept BX1.out hk2 hnx).lt
    clear hr2 hk2 TK KB1 BX1 BQ1 q0 q1 q2 q3 q4 q5 q6 x0 x1 x2 x3 x4 x5 x6 HR1
    by_cases hmx : gr ≤ x.t
    ·have emx : max gr x.t = x.t:=by omega
     rw [emx] at HC1 HN1
     go_wp2_with fail
     go_roundw
     case rel => exact ⟨m + 1,N + TN,x.t,true,C ++ TC,by omega,by omega,by omega,by omega,by go_num,by go_num,rfl,by go_num,HR2,by show _ = _;rw [List.append_assoc];exact HC1.out,by have:=HN1.out;show _ = _;omega,KB2,by simp;omega⟩
     case measure => simp [intOf];omega
    ·have emx : max gr x.t = gr:=by omega
     rw [emx] at HC1 HN1
     go_wp2_with fail
     go_roundw
     case rel => exact ⟨m + 1,N + TN,gr,true,C ++ TC,by omega,by omega,by omega,by omega,by go_num,by go_num,rfl,by go_num,HR2,by show _ = _;rw [List.append_assoc];exact HC1.out,by have:=HN1.out;show _ = _;omega,KB2,by simp;omega⟩
     case measure => simp [intOf];omega
   ·have e9 : errV (evC x) = .iface 56 (.int .i64 (evC x)):=by unfold errV;rw [if_neg hc]
    rw [e9] at SC
    have SCH:=hidE SC
    have HC1 : Hid (C ++ partC q gr kn (l.drop (m + 1)) = cs ++ CT):=by
     have e:=HC.out
     rw [partC,if_pos hc] at e
     exact e
    have HN1 : Hid (N + partN q gr kn (l.drop (m + 1)) = NT):=by
     have e:=HNN.out
     rw [partN,if_pos hc] at e
     exact e
    generalize evC x = c at *
    clear SC e9 HC HNN hc
    go_wp2_with fail
    refine SCH.out.mono ?_
    rintro e w1 ⟨rfl,hb⟩
    have hS1 : Below wr.heap.size wr w1:=HBA2.out.trans (hb.mono HBA2.out.size)
    have HR1:=hidE (HP.out.below _ _ _ HR.out hS1)
    have KB1:=hidE (keptB_trans KB.out (keptB_of_below hS1))
    clear hb hS1 SCH HR KB BX HGr HBA2 y0 y1 y2 y3 y4 y5 y6
    go_wp2_with fail
    go_roundw
    case rel => exact ⟨m + 1,N,gr,kn,C,by omega,by omega,hg0,hg1,rfl,rfl,rfl,by go_num,HR1,HC1,HN1,KB1,by omega⟩
    case measure => simp [intOf];omega
  ·have hme : m = l.length:=by omega
   subst hme
   have E1 : C = cs ++ CT:=by
    have:=HC.out
    rw [List.drop_length] at this
    simpa [partC] using this
   have E2 : N = NT:=by
    have:=HNN.out
    rw [List.drop_length] at this
    simpa [partN] using this
   subst E1 E2
   go_wp2_with fail
   go_ret
   exact ⟨rfl,HR.out,keptB_trans (keptB_of_below HBA.out) KB.out⟩
end Go.Proofs.YtaomljdbndajgaaGreatDoor

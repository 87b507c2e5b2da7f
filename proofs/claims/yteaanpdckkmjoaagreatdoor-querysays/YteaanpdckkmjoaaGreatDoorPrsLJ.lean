/- Several texts in one, each with its own head. What is proved: what the parts say. Conditions: theirs. -/
import Derived.Test.YteaanpdckkmjoaaGreatDoorPrsKJ
import Derived.Test.YteaanpdckkmjoaaGreatDoorNumPureJ
set_option linter.unusedVariables false
set_option linter.unusedSimpArgs false
set_option maxRecDepth 100000
set_option maxHeartbeats 8000000
namespace Go.Proofs.YteaanpdckkmjoaaGreatDoor
open Go.ChangeShapes Go.WideShapes Go.ChangeAt Go.RowKit
def questS (ws : Ws) : Qy × St :=
 let a:=aggS (mustS wSelect (.ok ws))
 let l:=aggsS FU [a.1] a.2
 let wh:=whereS (mustS wEvents (mustS wFrom l.2))
 let by_:=groupS wh.2
 let sz:=spanS (mustS wWindow by_.2)
 let sl:=optS wSlide sz.1 sz.2
 let de:=optS wDelay 0 sl.2
 let la:=optS wLate 0 de.2
 (⟨l.1,wh.1,by_.1,sz.1,sl.1,de.1,la.1⟩,endS la.2)
theorem runK_lift {α : Type} {k : Ws → Except Int α} (k' : St → Except Int α) (he : ∀ c,k' (.error c) = .error c) (hk : ∀ ws,k ws = k' (.ok ws)) (st : St) : runK st k = k' st:=by
 cases st with
 | error c => exact (he c).symm
 | ok ws => exact hk ws
def tE (q : Qy) (st : St) : Except Int Qy:=runK (endS st) (fun _ => .ok q)
def tLate (a : List AgQ) (wh bys : List Nd) (sz sl de : Int) (st : St) : Except Int Qy:=tE ⟨a,wh,bys,sz,sl,de,(optS wLate 0 st).1⟩ (optS wLate 0 st).2
def tDelay (a : List AgQ) (wh bys : List Nd) (sz sl : Int) (st : St) : Except Int Qy:=tLate a wh bys sz sl (optS wDelay 0 st).1 (optS wDelay 0 st).2
def tSlide (a : List AgQ) (wh bys : List Nd) (sz : Int) (st : St) : Except Int Qy:=tDelay a wh bys sz (optS wSlide sz st).1 (optS wSlide sz st).2
def tSize (a : List AgQ) (wh bys : List Nd) (st : St) : Except Int Qy:=tSlide a wh bys (spanS st).1 (spanS st).2
def tGroup (a : List AgQ) (wh : List Nd) (st : St) : Except Int Qy:=tSize a wh (groupS st).1 (mustS wWindow (groupS st).2)
def tWhere (a : List AgQ) (st : St) : Except Int Qy:=tGroup a (whereS st).1 (whereS st).2
def tTail (a : List AgQ) (st : St) : Except Int Qy:=tWhere a (mustS wEvents (mustS wFrom st))
theorem end_run (q : Qy) (ws : Ws) : endP q ws = tE q (.ok ws):=by
 unfold tE endP endS
 simp only
 by_cases h : ws = []
 ·simp only [if_pos h,runK]
 ·simp only [if_neg h,runK]
theorem tail_run (a : List AgQ) (ws : Ws) : tailP a ws = tTail a (.ok ws):=by
 unfold tailP
 simp only [must_run,where_run,group_run,span_run,opt_run,end_run]
 refine runK_lift (fun st => tWhere a (mustS wEvents st)) (fun c => rfl) (fun ws => ?_) _
 refine runK_lift (fun st => tWhere a st) (fun c => rfl) (fun ws => ?_) _
 refine runK_lift (fun st => tGroup a (whereS (.ok ws)).1 st) (fun c => rfl) (fun ws1 => ?_) _
 refine runK_lift (fun st => tSize a _ (groupS (.ok ws1)).1 (mustS wWindow st)) (fun c => rfl) (fun ws2 => ?_) _
 refine runK_lift (fun st => tSize a _ _ st) (fun c => rfl) (fun ws3 => ?_) _
 refine runK_lift (fun st => tSlide a _ _ (spanS (.ok ws3)).1 st) (fun c => rfl) (fun ws4 => ?_) _
 refine runK_lift (fun st => tDelay a _ _ _ (optS wSlide _ (.ok ws4)).1 st) (fun c => rfl) (fun ws5 => ?_) _
 refine runK_lift (fun st => tLate a _ _ _ _ (optS wDelay 0 (.ok ws5)).1 st) (fun c => rfl) (fun ws6 => ?_) _
 exact runK_lift (fun st => tE _ st) (fun c => rfl) (fun ws7 => rfl) _
theorem quest_run (ws : Ws) : questP ws = runK (questS ws).2 (fun _ => .ok (questS ws).1):=by
 have e : runK (questS ws).2 (fun _ => .ok (questS ws).1) = tTail (aggsS FU [(aggS (mustS wSelect (.ok ws))).1] (aggS (mustS wSelect (.ok ws))).2).1 (aggsS FU [(aggS (mustS wSelect (.ok ws))).1] (aggS (mustS wSelect (.ok ws))).2).2:=rfl
 rw [e]
 unfold questP
 rw [must_run]
 cases h0 : mustS wSelect (.ok ws) with
 | error c => simp only [aggS_err,aggsS_err];rfl
 | ok ws0 =>
  show (match aggrP ws0 with
   | .error c => .error c
   | .ok (a,ws1) => match aggsP FU [a] ws1 with
    | .error c => .error c
    | .ok (l,ws2) => tailP l ws2 : Except Int Qy) = _
  rw [agg_run]
  cases ha : (aggS (.ok ws0)).2 with
  | error c => simp only [aggsS_err];rfl
  | ok ws1 =>
   show (match aggsP FU [(aggS (.ok ws0)).1] ws1 with
    | .error c => .error c
    | .ok (l,ws2) => tailP l ws2 : Except Int Qy) = _
   rw [aggs_run]
   cases hl : (aggsS FU [(aggS (.ok ws0)).1] (.ok ws1)).2 with
   | error c => rfl
   | ok ws2 => exact tail_run _ _
def pmS : St → Nat
 | .ok ws => ws.length + 1
 | .error _ => 0
theorem pmS_is {w : World} {gp gm : Nat} {st : St} (h : PXS w gp gm st) : pmeas w gp = pmS st:=by
 cases st with
 | ok ws => obtain ⟨wv,h⟩:=h;exact pm_ok h.ps
 | error c => obtain ⟨h0,wv,h⟩:=h;exact pm_err h.ps h0
theorem pmS_step {st : St} (hb : (takeS wComma st).1 = true) : pmS (aggS (takeS wComma st).2).2 < pmS st:=by
 have h1:=wl_take hb
 have h2:=wl_agg (takeS wComma st).2
 cases st with
 | error c => simp [takeS] at hb
 | ok ws =>
  have h3 : wlS (.ok ws) = ws.length:=rfl
  cases h9 : (aggS (takeS wComma (.ok ws)).2).2 with
  | error c => simp [pmS]
  | ok r =>
   rw [h9] at h2
   have h4 : wlS (.ok r) = r.length:=rfl
   simp only [pmS]
   omega
theorem qTake4 (Q : Exit → Act → World → Prop) (C4 : Code) (h4 : rgn 4 (Tryz.f31.body.getD .skip) = some C4) (t : List Value) (gp gm gr gq : Nat) (st : St) (va vw vb : Value) (q : Qy) (W w : World) (ht : t.length = 71) (k0 : t[0]? = some (.pointer (some ⟨gp,0,none⟩))) (k2 : t[2]? = some (.pointer (some ⟨gr,0,none⟩))) (k3 : t[3]? = some (.pointer (some ⟨gq,0,none⟩))) (h : QS W w gp gm gr gq st va vw vb q)
  (hF : (takeS wComma st).1 = false → ∀ (t' : List Value) (w' : World),t'.length = 71 → t'[0]? = some (.pointer (some ⟨gp,0,none⟩)) → t'[2]? = some (.pointer (some ⟨gr,0,none⟩)) → t'[3]? = some (.pointer (some ⟨gq,0,none⟩)) → QS W w' gp gm gr gq st va vw vb q → Q (.exit 0) { tmps:=t'.toArray,defers:=[] } w')
  (hT : (takeS wComma st).1 = true → ∀ (t' : List Value) (w' : World),t'.length = 71 → t'[0]? = some (.pointer (some ⟨gp,0,none⟩)) → t'[2]? = some (.pointer (some ⟨gr,0,none⟩)) → t'[3]? = some (.pointer (some ⟨gq,0,none⟩)) → QS W w' gp gm gr gq (takeS wComma st).2 va vw vb q → Q .normal { tmps:=t'.toArray,defers:=[] } w') :
  Code.wp Tryz.prog (.seq C4 (.cond (.tmp 14) .skip (.exit 0))) Q { tmps:=t.toArray,defers:=[] } w:=by
 have H:=hidE h
 have TK:=ts_take gp gm wComma (by decide) st w H.out.ps
 clear h
 obtain ⟨f,hf,hi⟩:=listed t ht
 have e0:=some_at (hi 0 (by decide)) k0
 have e2:=some_at (hi 2 (by decide)) k2
 have e3:=some_at (hi 3 (by decide)) k3
 rw [e0,e2,e3] at hf
 clear hi ht k0 e0 k2 e2 k3 e3
 subst hf
 unfold Tryz.f31 at h4
 simp [rgn] at h4
 subst h4
 cases hb : (takeS wComma st).1 with
 | false =>
  rw [hb,take_no hb] at TK
  have TKH:=hidE TK
  have HF:=hidE (hF hb)
  clear TK hb hF hT
  go_wp2_with fail
  refine TKH.out.mono ?_
  rintro r w1 ⟨rfl,hk,hp⟩
  have H1:=hidE (qs_call H.out hk hp id)
  clear hk hp TKH H
  go_wp2_with fail
  exact HF.out _ _ rfl rfl rfl rfl H1.out
 | true =>
  rw [hb] at TK
  have TKH:=hidE TK
  have HT:=hidE (hT hb)
  clear TK hb hF hT
  go_wp2_with fail
  refine TKH.out.mono ?_
  rintro r w1 ⟨rfl,hk,hp⟩
  have H1:=hidE (qs_call H.out hk hp okS_take)
  clear hk hp TKH H
  go_wp2_with fail
  exact HT.out _ _ rfl rfl rfl rfl H1.out
theorem qLoop (Q : Exit → Act → World → Prop) (C4 : Code) (h4 : stm 4 (Tryz.f31.body.getD .skip) = some C4) (t : List Value) (gp gm gr gq n0 : Nat) (st : St) (va vw vb : Value) (q : Qy) (W w : World) (ht : t.length = 71) (k0 : t[0]? = some (.pointer (some ⟨gp,0,none⟩))) (k2 : t[2]? = some (.pointer (some ⟨gr,0,none⟩))) (k3 : t[3]? = some (.pointer (some ⟨gq,0,none⟩)))
  (hn0 : wlS st < n0) (hl0 : q.aggs.length + wlS st ≤ 150) (h : QS W w gp gm gr gq st va vw vb q)
  (hpan : ∀ c (a : Act) o v w,Q (.panic c) (a.put o v) w → Q (.panic c) a w)
  (hQ : ∀ (t' : List Value) (va' : Value) (w' : World),t'.length = 71 → t'[0]? = some (.pointer (some ⟨gp,0,none⟩)) → t'[2]? = some (.pointer (some ⟨gr,0,none⟩)) → t'[3]? = some (.pointer (some ⟨gq,0,none⟩)) → QS W w' gp gm gr gq (aggsS n0 q.aggs st).2 va' vw vb { q with aggs:=(aggsS n0 q.aggs st).1 } → Q .normal { tmps:=t'.toArray,defers:=[] } w') :
  Code.wp Tryz.prog C4 Q { tmps:=t.toArray,defers:=[] } w:=by
 have HQ:=hidE hQ
 have HPN:=hidE hpan
 clear hQ hpan
 unfold Tryz.f31 at h4
 simp [stm,lead] at h4
 subst h4
 refine wp_block (wp_loop (fun a wr => ∃ (t : List Value) (k : Nat) (l : List AgQ) (st1 : St) (va1 : Value),a = { tmps:=t.toArray,defers:=[] } ∧ t.length = 71 ∧ (t[0]? = some (.pointer (some ⟨gp,0,none⟩)) ∧ t[2]? = some (.pointer (some ⟨gr,0,none⟩)) ∧ t[3]? = some (.pointer (some ⟨gq,0,none⟩))) ∧ QS W wr gp gm gr gq st1 va1 vw vb { q with aggs:=l } ∧ wlS st1 < k ∧ l.length + wlS st1 ≤ 150 ∧ aggsS k l st1 = aggsS n0 q.aggs st) (fun a wr => pmeas wr gp) ?_ ?_)
 ·exact ⟨t,n0,q.aggs,st,va,rfl,ht,⟨k0,k2,k3⟩,h,hn0,hl0,rfl⟩
 ·rintro a wr ⟨t,k,l,st1,va1,rfl,ht,⟨k0,k2,k3⟩,hq,hk,hl,he⟩
  obtain ⟨k8,rfl⟩ : ∃ k8,k = k8 + 1:=⟨k - 1,by omega⟩
  refine wp_seq (qTake4 _ _ (by kernel_rfl) t gp gm gr gq st1 va1 vw vb { q with aggs:=l } W wr ht k0 k2 k3 hq ?_ ?_)
  ·intro hb t' w' ht' a0 a2 a3 h1
   have e1 : aggsS (k8 + 1) l st1 = (l,st1):=by simp only [aggsS,hb];rfl
   refine then_exit (then_exit (in_exit (HQ.out t' va1 w' ht' a0 a2 a3 ?_)))
   rw [← he,e1]
   exact h1
  ·intro hb t1 w1 ht1 a0 a2 a3 h1
   have hw1:=wl_take hb
   have e1 : aggsS (k8 + 1) l st1 = aggsS k8 (l ++ [(aggS (takeS wComma st1).2).1]) (aggS (takeS wComma st1).2).2:=by simp only [aggsS,if_pos hb]
   refine then_normal (wp_block (qAdd5 _ _ (by kernel_rfl) t1 gp gm gr gq (takeS wComma st1).2 va1 vw vb { q with aggs:=l } W w1 ht1 a0 a2 a3 h1 (by show l.length ≤ 200;omega) (pan_block (pan_then (fun c a o v w h => HPN.out c a o v w h))) ?_))
   intro t2 va2 w2 ht2 b0 b2 b3 h2
   have hw2:=wl_agg (takeS wComma st1).2
   refine in_normal ⟨⟨t2,k8,_,_,va2,rfl,ht2,⟨b0,b2,b3⟩,h2,by omega,by simp;omega,by rw [← e1];exact he⟩,?_⟩
   rw [pmS_is hq.ps,pmS_is h2.ps]
   exact pmS_step hb
def QuestR (gp gm : Nat) (ws : Ws) (W : World) (r : Ending) (w : World) : Prop:=∃ va vw vb,r = .returned (.agg #[va,vw,vb,.int .i64 (questS ws).1.size,.int .i64 (questS ws).1.slide,.int .i64 (questS ws).1.delay,.int .i64 (questS ws).1.late]) ∧
 KeptB W w (fun q => q = gp) ∧ PXS w gp gm (questS ws).2 ∧ AggsR w W.heap.size (gp + 1) va (questS ws).1.aggs (okS (questS ws).2) ∧ OptS w (gp + 1) vw (questS ws).1.wh (okS (questS ws).2) ∧ OptS w (gp + 1) vb (questS ws).1.bys (okS (questS ws).2)
theorem qFin (R : Ending → World → Prop) (C24 : Code) (h24 : rgn 24 (Tryz.f31.body.getD .skip) = some C24) (t : List Value) (gp gm gr gq : Nat) (st : St) (va vw vb : Value) (q : Qy) (W w : World) (ht : t.length = 71) (k0 : t[0]? = some (.pointer (some ⟨gp,0,none⟩))) (k2 : t[2]? = some (.pointer (some ⟨gr,0,none⟩))) (k3 : t[3]? = some (.pointer (some ⟨gq,0,none⟩))) (h : QS W w gp gm gr gq st va vw vb q)
  (hR : ∀ w',KeptB W w' (fun q => q = gp) → PXS w' gp gm st → AggsR w' W.heap.size (gp + 1) va q.aggs (okS st) → OptS w' (gp + 1) vw q.wh (okS st) → OptS w' (gp + 1) vb q.bys (okS st) → R (.returned (.agg #[va,vw,vb,.int .i64 q.size,.int .i64 q.slide,.int .i64 q.delay,.int .i64 q.late])) w') :
  Code.wp Tryz.prog (.seq C24 .ret) (bodyPost Tryz.prog Tryz.f31 R) { tmps:=t.toArray,defers:=[] } w:=by
 have HR:=hidE hR
 have H:=hidE h
 clear h hR
 have hsa:=aggs_sl H.out.ag
 obtain ⟨a1,n1,c1,rfl⟩:=sl_shape hsa
 obtain ⟨a2,n2,c2,rfl⟩:=sl_shape H.out.hw.1
 obtain ⟨a3,n3,c3,rfl⟩:=sl_shape H.out.hb.1
 clear hsa
 have Z:=hidE (show BlkAt (((((((w.setCell ⟨gr,0,none⟩ (.slice a1 n1 c1)).setCell ⟨gr,1,none⟩ (.slice a2 n2 c2)).setCell ⟨gr,2,none⟩ (.slice a3 n3 c3)).setCell ⟨gr,3,none⟩ (.int .i64 q.size)).setCell ⟨gr,4,none⟩ (.int .i64 q.slide)).setCell ⟨gr,5,none⟩ (.int .i64 q.delay)).setCell ⟨gr,6,none⟩ (.int .i64 q.late)) gr [.slice a1 n1 c1,.slice a2 n2 c2,.slice a3 n3 c3,.int .i64 q.size,.int .i64 q.slide,.int .i64 q.delay,.int .i64 q.late] by simpa using (blk_set (blk_set (blk_set (blk_set (blk_set (blk_set (blk_set H.out.br 0 (.slice a1 n1 c1) (by simp)) 1 (.slice a2 n2 c2) (by simp)) 2 (.slice a3 n3 c3) (by simp)) 3 (.int .i64 q.size) (by simp)) 4 (.int .i64 q.slide) (by simp)) 5 (.int .i64 q.delay) (by simp)) 6 (.int .i64 q.late) (by simp)))
 have KG : Hid (KeptB w (((((((w.setCell ⟨gr,0,none⟩ (.slice a1 n1 c1)).setCell ⟨gr,1,none⟩ (.slice a2 n2 c2)).setCell ⟨gr,2,none⟩ (.slice a3 n3 c3)).setCell ⟨gr,3,none⟩ (.int .i64 q.size)).setCell ⟨gr,4,none⟩ (.int .i64 q.slide)).setCell ⟨gr,5,none⟩ (.int .i64 q.delay)).setCell ⟨gr,6,none⟩ (.int .i64 q.late)) (fun q => q = gr)):=(keptB_set (keptB_set (keptB_set (keptB_set (keptB_set (keptB_set (keptB_set (keptB_of_below (bad:=fun q => q = gr) (Below.refl w.heap.size w)) rfl 0 _) rfl 1 _) rfl 2 _) rfl 3 _) rfl 4 _) rfl 5 _) rfl 6 _)
 have d0:=H.out.bq.c 0 (by simp)
 have f0:=H.out.br.fz 0
 have b0:=H.out.br.c 0 (by simp)
 have d1:=H.out.bq.c 1 (by simp)
 have f1:=H.out.br.fz 1
 have b1:=H.out.br.c 1 (by simp)
 have d2:=H.out.bq.c 2 (by simp)
 have f2:=H.out.br.fz 2
 have b2:=H.out.br.c 2 (by simp)
 have d3:=H.out.bq.c 3 (by simp)
 have f3:=H.out.br.fz 3
 have b3:=H.out.br.c 3 (by simp)
 have d4:=H.out.bq.c 4 (by simp)
 have f4:=H.out.br.fz 4
 have b4:=H.out.br.c 4 (by simp)
 have d5:=H.out.bq.c 5 (by simp)
 have f5:=H.out.br.fz 5
 have b5:=H.out.br.c 5 (by simp)
 have d6:=H.out.bq.c 6 (by simp)
 have f6:=H.out.br.fz 6
 have b6:=H.out.br.c 6 (by simp)
 simp only [List.getElem?_cons_zero,List.getElem?_cons_succ] at d0 b0 d1 b1 d2 b2 d3 b3 d4 b4 d5 b5 d6 b6
 have l1:=H.out.lr
 have l3:=H.out.lp
 have AG:=hidE (aggs_ty H.out.ag KG.out H.out.tr qty_node qty_agg)
 have AW:=hidE (optS_ty H.out.hw KG.out H.out.tr qty_node)
 have AB:=hidE (optS_ty H.out.hb KG.out H.out.tr qty_node)
 have AP:=hidE (pxs_far H.out.ps KG.out (by omega))
 have AK:=hidE (kept_own H.out.kp KG.out l1)
 clear KG H
 obtain ⟨f,hf,hi⟩:=listed t ht
 have e0:=some_at (hi 0 (by decide)) k0
 have e2:=some_at (hi 2 (by decide)) k2
 have e3:=some_at (hi 3 (by decide)) k3
 rw [e0,e2,e3] at hf
 clear hi ht k0 e0 k2 e2 k3 e3
 subst hf
 unfold Tryz.f31 at h24
 simp [rgn] at h24
 subst h24
 go_wp2_with fail
 generalize (((((((w.setCell ⟨gr,0,none⟩ (.slice a1 n1 c1)).setCell ⟨gr,1,none⟩ (.slice a2 n2 c2)).setCell ⟨gr,2,none⟩ (.slice a3 n3 c3)).setCell ⟨gr,3,none⟩ (.int .i64 q.size)).setCell ⟨gr,4,none⟩ (.int .i64 q.slide)).setCell ⟨gr,5,none⟩ (.int .i64 q.delay)).setCell ⟨gr,6,none⟩ (.int .i64 q.late)) = wz at *
 have z0:=Z.out.c 0 (by simp)
 have z1:=Z.out.c 1 (by simp)
 have z2:=Z.out.c 2 (by simp)
 have z3:=Z.out.c 3 (by simp)
 have z4:=Z.out.c 4 (by simp)
 have z5:=Z.out.c 5 (by simp)
 have z6:=Z.out.c 6 (by simp)
 simp only [List.getElem?_cons_zero,List.getElem?_cons_succ] at z0 z1 z2 z3 z4 z5 z6
 exact bodyPost_ret (v:=.agg #[.slice a1 n1 c1,.slice a2 n2 c2,.slice a3 n3 c3,.int .i64 q.size,.int .i64 q.slide,.int .i64 q.delay,.int .i64 q.late]) (by simp [results,Tryz.results31,go_sem,z0,z1,z2,z3,z4,z5,z6]) rfl (HR.out _ AK.out AP.out AG.out AW.out AB.out)
theorem quest_any (gp gm : Nat) (ws : Ws) (w : World) (h : PXS w gp gm (.ok ws)) :
  Calls Tryz.prog 31 #[.pointer (some ⟨gp,0,none⟩)] w fun r w' => QuestR gp gm ws w r w':=by
 have hf : wlS (.ok ws) ≤ 100:=by obtain ⟨wv,hp⟩:=h;exact hp.ps.few
 go_enter Tryz.func31,Tryz.ntmps31
 refine qStart _ _ _ (by kernel_rfl) _ (by kernel_rfl) _ gp gm (.ok ws) w rfl rfl h ?_
 intro t1 w1 ht1 a0 a2 a3 h1
 refine (wp_seq (qMust2 _ _ (by kernel_rfl) t1 gp gm _ _ _ _ _ _ _ w w1 ht1 a0 a2 a3 h1 ?_))
 intro t2 w2 ht2 a02 a22 a32 h2
 refine then_normal (wp_seq (qAdd3 _ _ (by kernel_rfl) t2 gp gm _ _ _ _ _ _ _ w w2 ht2 a02 a22 a32 h2 (by simp) (pan_then pan_body) ?_))
 intro t3 va1 w3 ht3 a03 a23 a33 h3
 refine then_normal (wp_seq (qLoop _ _ (by kernel_rfl) t3 gp gm _ _ FU _ _ _ _ _ w w3 ht3 a03 a23 a33 (by have:=wl_agg (mustS wSelect (.ok ws));have:=wl_must wSelect (.ok ws);unfold FU;omega) (by have:=wl_agg (mustS wSelect (.ok ws));have:=wl_must wSelect (.ok ws);simp;omega) h3 (pan_then pan_body) ?_))
 intro t4 va2 w4 ht4 a04 a24 a34 h4
 refine then_normal (wp_seq (qMust6 _ _ (by kernel_rfl) t4 gp gm _ _ _ _ _ _ _ w w4 ht4 a04 a24 a34 h4 ?_))
 intro t5 w5 ht5 a05 a25 a35 h5
 refine then_normal (wp_seq (qMust7 _ _ (by kernel_rfl) t5 gp gm _ _ _ _ _ _ _ w w5 ht5 a05 a25 a35 h5 ?_))
 intro t6 w6 ht6 a06 a26 a36 h6
 refine then_normal (wp_seq (qOpt8 _ _ (by kernel_rfl) _ (by kernel_rfl) t6 gp gm _ _ _ _ _ _ _ w w6 rfl rfl ht6 a06 a26 a36 h6 ?_))
 intro t7 vw w7 ht7 a07 a27 a37 h7
 refine then_normal (wp_seq (qOpt10 _ _ (by kernel_rfl) _ (by kernel_rfl) _ (by kernel_rfl) t7 gp gm _ _ _ _ _ _ _ w w7 rfl rfl ht7 a07 a27 a37 h7 ?_))
 intro t8 vb w8 ht8 a08 a28 a38 h8
 refine then_normal (wp_seq (qMust13 _ _ (by kernel_rfl) t8 gp gm _ _ _ _ _ _ _ w w8 ht8 a08 a28 a38 h8 ?_))
 intro t9 w9 ht9 a09 a29 a39 h9
 refine then_normal (qSize _ _ _ (by kernel_rfl) _ (by kernel_rfl) t9 gp gm _ _ _ _ _ _ _ w w9 ht9 a09 a29 a39 h9 ?_)
 intro t10 w10 ht10 a010 a210 a310 h10
 refine (wp_seq (qOpt16 _ _ (by kernel_rfl) _ (by kernel_rfl) t10 gp gm _ _ _ _ _ _ _ w w10 ht10 a010 a210 a310 h10 ?_))
 intro t11 w11 ht11 a011 a211 a311 h11
 refine then_normal (wp_seq (qOpt18 _ _ (by kernel_rfl) _ (by kernel_rfl) t11 gp gm _ _ _ _ _ _ _ w w11 ht11 a011 a211 a311 h11 ?_))
 intro t12 w12 ht12 a012 a212 a312 h12
 refine then_normal (wp_seq (qOpt20 _ _ (by kernel_rfl) _ (by kernel_rfl) t12 gp gm _ _ _ _ _ _ _ w w12 ht12 a012 a212 a312 h12 ?_))
 intro t13 w13 ht13 a013 a213 a313 h13
 refine then_normal (wp_seq (qEnds _ _ (by kernel_rfl) _ (by kernel_rfl) t13 gp gm _ _ _ _ _ _ _ w w13 ht13 a013 a213 a313 h13 ?_))
 intro t14 w14 ht14 a014 a214 a314 h14
 exact then_normal (qFin _ _ (by kernel_rfl) t14 gp gm _ _ _ _ _ _ _ w w14 ht14 a014 a214 a314 h14 (fun w' k1 k2 k3 k4 k5 => ⟨_,_,_,rfl,k1,k2,k3,k4,k5⟩))
def tyO (n : Nat) : Option (List Int) → V2
 | none => (0,3)
 | some ks => (ks.getD (n - 1) 0,0)
theorem type_any (l : List Nd) (v : Value) (w : World) (hl : l.length ≤ 1000) (hr : RowG w v 6 l.length (rowN l)) :
  Calls Tryz.prog 67 #[v] w fun e w' => e = .returned (.tuple #[.int .i64 (tyE l).1,errC (tyE l).2]) ∧ Below w.heap.size w w':=by
 obtain ⟨ao,cap,rfl⟩:=rowG_shape hr
 obtain ⟨i0,hi,hz0,hz1,hz2⟩:=info_parts infoI
 have HR:=hidE hr
 clear hr
 by_cases h0 : l.length = 0
 ·have e : tyE l = (0,3):=by unfold tyE;rw [if_pos h0]
  rw [e]
  have z : ((l.length : Int) == 0) = true:=by simp [h0]
  clear e h0
  go_enter Tryz.func67,Tryz.ntmps67
  go_wp2_with fail
  go_ret2
  exact ⟨rfl,Below.refl _ _⟩
 ·have z : ((l.length : Int) == 0) = false:=by rw [beq_eq_false_iff_ne];omega
  have hT : tyE l = tyO l.length (tyF l []):=by
   unfold tyE
   rw [if_neg h0]
   cases tyF l [] <;> rfl
  rw [hT]
  clear hT
  generalize hF : tyF l [] = T
  have HF:=hidE hF
  clear hF
  go_enter Tryz.func67,Tryz.ntmps67
  go_wp2_with (at_make;go_must (refine wpList_make_own _ rfl _ _ 71 rfl w.heap.size 3 i0 (.int .i64 0) 1 Tryz.underlying71 hi hz0 hz1 .i64 .i64 _ l.length rfl rfl rfl (by rw [hz2];omega) (by show _ ≤ 2 ^ 63 - 1;omega) (Nat.le_refl _) ?_))
  intro w0 ho0 hg0
  have HB0 : Hid (Below w.heap.size w w0):=(Below.refl _ _).grown hg0 (Nat.le_refl _) (fun k hk => by cases hk)
  have HO0:=hidE ho0
  clear ho0 hg0
  go_wp2_with fail
  go_loopw [4,16] (fun v i wr => ∃ (m : Nat) (ks : List Int),m ≤ l.length ∧ ks.length = m ∧ i = .int .i64 m ∧ Hid (wr.ownsRow w.heap.size 3 1 v ks.length (ks.map (Value.int .i64))) ∧ Hid (Below w.heap.size w wr) ∧ Hid (tyF (l.drop m) ks = T)) (fun _ i _ => l.length - (intOf i).toNat)
  case atStart => exact ⟨0,[],Nat.zero_le _,rfl,rfl,HO0,HB0,HF⟩
  case round =>
   clear HF HB0 HO0
   obtain ⟨m,ks,hm,rfl,rfl,HO,HB,HS⟩:=hrel
   obtain ⟨ao2,cap2,rfl⟩:=owns_shapeE HO.out
   by_cases hlt : ks.length < l.length
   ·obtain ⟨g,off,rfl,hnode,l1,l2,l3⟩:=rowN_node HR.out _ hlt
    have hS:=HS.out
    rw [List.drop_eq_getElem_cons hlt] at hS
    generalize l[ks.length] = nd at *
    obtain ⟨n0,n1,n2,n3,n4,n5⟩:=nodeAt_below hnode HB.out l3
    clear hnode
    unfold maxLen at l2
    simp only [tyF] at hS
    go_wp2_with fail
    refine (partsFit_any nd ks _ _ (by omega) (rowG_of_owns (HO.out.alloc _))).mono ?_
    rintro e w1 ⟨rfl,hb1⟩
    have HB1:=nxt (nxta HB (.cells #[.int .i64 nd.op,.int .i64 nd.x,.int .i64 nd.y,.int .i64 nd.n,.int .i64 nd.k,.int .i64 nd.v] 91)) hb1
    have HO1:=hidE (own_keep (HO.out.alloc _) hb1 (Nat.le_refl _))
    obtain ⟨hc1,hf1⟩:=bcell hb1
    clear hb1
    cases hfit : fitN nd ks
    ·rw [hfit] at hS
     simp only [Bool.false_eq_true,if_false] at hS
     subst hS
     clear hfit HS
     go_wp2_with fail
     go_ret2
     exact ⟨rfl,HB1.out⟩
    ·rw [hfit] at hS
     simp only [if_true] at hS
     have HS2 : Hid (tyF (List.drop (ks.length + 1) l) (ks ++ [kindN nd]) = T):=hS
     clear hS hfit HS
     go_wp2_with fail
     refine (kindOf_any nd _).mono ?_
     rintro e w2 ⟨rfl,hb2⟩
     have HB2:=nxt HB1 hb2
     have HO2:=hidE (own_keep HO1.out hb2 (Nat.le_refl _))
     clear hb2 hc1 hf1
     generalize kindN nd = q at *
     go_wp2_with (at_builtin;go_must (refine wpList_append_own _ rfl (.tmp 25) (.tmp 28) 71 rfl w.heap.size 3 i0 (.int .i64 0) 1 8 Tryz.underlying71 hi hz0 hz1 hz2 rfl (by decide) _ _ _ rfl (HO2.out.alloc _) ⟨w2.heap.size,0,none⟩ 1 1 [.int .i64 q] rfl rfl (cell_one_newE _ _ _) (by intro u hu;simp at hu;subst hu;rfl) (by show _ ≤ 2 ^ 63 - 1;omega) (by omega) (by have:=HB2.out.size;simp;omega) ?_))
     intro v' w3 ho3 hg3 _
     have ho4 : w3.ownsRow w.heap.size 3 1 v' (ks ++ [q]).length ((ks ++ [q]).map (Value.int .i64)):=by simpa using ho3
     have HO3:=hidE ho4
     have HB3 : Hid (Below w.heap.size w w3):=(HB2.out.alloc HB2.out.size _).grown hg3 (by have:=HB2.out.size;simp;omega) (fun k hk => (HO2.out.lt k hk).1)
     clear ho3 hg3 ho4
     go_wp2_with fail
     go_roundw
     case rel => exact ⟨ks.length + 1,ks ++ [q],by omega,by simp,by go_num,HO3,HB3,HS2⟩
     case measure => simp [intOf];omega
   ·have hS:=HS.out
    rw [List.drop_eq_nil_of_le (by omega)] at hS
    simp only [tyF] at hS
    subst hS
    obtain ⟨d,hd⟩ : ∃ d,l.length = d + 1:=⟨l.length - 1,by omega⟩
    have hdb : d < ks.length:=by omega
    obtain ⟨g2,off2,x2,rfl,hx2,cx2,l12,l22,l32⟩:=rowG_cell (rowG_of_owns HO.out) d hdb
    rw [List.getElem?_map,List.getElem?_eq_getElem hdb] at hx2
    simp only [Option.map_some,Option.some.injEq] at hx2
    subst hx2
    have HX : Hid (tyO l.length (some ks) = (ks[d],0)):=by
     show _ = _
     show ((ks.getD (l.length - 1) 0 : Int),(0 : Int)) = _
     rw [hd,Nat.add_sub_cancel,List.getD_eq_getElem?_getD,List.getElem?_eq_getElem hdb];rfl
    have hd2 : ks.length = d + 1:=by omega
    generalize ks[d] = q at *
    unfold maxLen at l22
    clear HS h0
    go_wp2_with fail
    go_ret2
    exact ⟨by rw [HX.out];rfl,HB.out⟩
theorem errC_0 : errC 0 = .nilIface:=rfl
theorem errC_ne {e : Int} (h : e ≠ 0) : errC e = .iface 48 (.int .i64 e):=by unfold errC;rw [if_neg h]
def NodG (w : World) (v : Value) (l : List Nd) : Prop:=RowG w v 6 l.length (rowN l)
theorem nodG_below {w w' : World} {v : Value} {l : List Nd} (h : NodG w v l) (hb : Below w.heap.size w w') : NodG w' v l:=rowG_below h hb
theorem kindQ_any (l : List Nd) (v : Value) (w : World) (hl : l.length ≤ 1000) (hr : NodG w v l) :
  Calls Tryz.prog 41 #[v] w fun e w' => e = .returned (.tuple #[.int .i64 (kindQ l).1,errC (kindQ l).2]) ∧ Below w.heap.size w w':=by
 have CK:=check_any l v w hl hr
 have TY:=hidE (fun w' (hb : Below w.heap.size w w') => type_any l v w' hl (rowG_below hr hb))
 obtain ⟨ao,cap,rfl⟩:=rowG_shape hr
 by_cases h : chkE l = 0
 ·have e : kindQ l = tyE l:=by unfold kindQ;rw [if_neg (by simp [h])]
  rw [h,errC_0] at CK
  rw [e]
  have CKH:=hidE CK
  generalize errC (tyE l).2 = ev at *
  clear hr CK h e
  go_enter Tryz.func41,Tryz.ntmps41
  go_wp2_with fail
  refine CKH.out.mono ?_
  rintro r w1 ⟨rfl,hb⟩
  have T1:=hidE (TY.out w1 hb)
  have B1:=hidE hb
  clear hb CKH TY
  go_wp2_with fail
  refine T1.out.mono ?_
  rintro r w2 ⟨rfl,hb⟩
  have B2:=hidE (B1.out.trans (hb.mono B1.out.size))
  clear hb T1
  go_wp2_with fail
  go_ret2
  exact ⟨rfl,B2.out⟩
 ·have e : kindQ l = (0,chkE l):=by unfold kindQ;rw [if_pos h]
  rw [errC_ne h] at CK
  rw [e]
  show Calls _ _ _ _ fun e w' => e = .returned (.tuple #[.int .i64 0,errC (chkE l)]) ∧ _
  rw [errC_ne h]
  have CKH:=hidE CK
  clear hr CK h e TY
  go_enter Tryz.func41,Tryz.ntmps41
  go_wp2_with fail
  refine CKH.out.mono ?_
  rintro r w1 ⟨rfl,hb⟩
  have B1:=hidE hb
  clear hb CKH
  go_wp2_with fail
  go_ret2
  exact ⟨rfl,B1.out⟩
theorem checkBy_any (l : List Nd) (v : Value) (w : World) (hl : l.length ≤ 1000) (hr : NodG w v l) :
  Calls Tryz.prog 21 #[v] w fun e w' => e = .returned (errC (chkB l)) ∧ Below w.heap.size w w':=by
 have KO:=hidE (kindQ_any l v w hl hr)
 obtain ⟨ao,cap,rfl⟩:=rowG_shape hr
 by_cases h : l.length = 0
 ·have e : chkB l = 0:=by unfold chkB;rw [if_pos h]
  rw [e,errC_0]
  rw [h] at *
  clear hr KO h e
  go_enter Tryz.func21,Tryz.ntmps21
  go_wp2_with fail
  go_ret
  exact ⟨rfl,Below.refl _ _⟩
 ·have e : chkB l = (kindQ l).2:=by unfold chkB;rw [if_neg h]
  rw [e]
  have h0 : ((l.length : Int) == 0) = false:=beq_eq_false_iff_ne.2 (by omega)
  have h1 : ¬ (l.length : Int) = 0:=by omega
  generalize errC (kindQ l).2 = ev at *
  clear hr h e
  go_enter Tryz.func21,Tryz.ntmps21
  go_wp2_with fail
  refine KO.out.mono ?_
  rintro r w1 ⟨rfl,hb⟩
  have B1:=hidE hb
  clear hb KO
  go_wp2_with fail
  go_ret
  exact ⟨rfl,B1.out⟩
theorem checkWhere_any (l : List Nd) (v : Value) (w : World) (hl : l.length ≤ 1000) (hr : NodG w v l) :
  Calls Tryz.prog 20 #[v] w fun e w' => e = .returned (errC (chkW l)) ∧ Below w.heap.size w w':=by
 have KO:=kindQ_any l v w hl hr
 obtain ⟨ao,cap,rfl⟩:=rowG_shape hr
 by_cases h : l.length = 0
 ·have e : chkW l = 0:=by unfold chkW;rw [if_pos h]
  rw [e,errC_0]
  rw [h] at *
  clear hr KO h e
  go_enter Tryz.func20,Tryz.ntmps20
  go_wp2_with fail
  go_ret
  exact ⟨rfl,Below.refl _ _⟩
 ·have h0 : ((l.length : Int) == 0) = false:=beq_eq_false_iff_ne.2 (by omega)
  have h1 : ¬ (l.length : Int) = 0:=by omega
  by_cases hk : (kindQ l).2 = 0
  ·rw [hk,errC_0] at KO
   have KOH:=hidE KO
   by_cases h2 : (kindQ l).1 = 1
   ·have e : chkW l = 3:=by unfold chkW;rw [if_neg h,if_neg (by simp [hk]),if_pos h2]
    rw [e,errC_ne (by decide)]
    rw [h2] at KOH
    clear hr h e KO hk h2
    go_enter Tryz.func20,Tryz.ntmps20
    go_wp2_with fail
    refine KOH.out.mono ?_
    rintro r w1 ⟨rfl,hb⟩
    have B1:=hidE hb
    clear hb KOH
    go_wp2_with fail
    go_ret
    exact ⟨rfl,B1.out⟩
   ·have e : chkW l = 0:=by unfold chkW;rw [if_neg h,if_neg (by simp [hk]),if_neg h2]
    rw [e,errC_0]
    have h3 : ((kindQ l).1 == 1) = false:=by simpa using h2
    generalize (kindQ l).1 = k at *
    clear hr h e KO hk
    go_enter Tryz.func20,Tryz.ntmps20
    go_wp2_with fail
    refine KOH.out.mono ?_
    rintro r w1 ⟨rfl,hb⟩
    have B1:=hidE hb
    clear hb KOH
    go_wp2_with fail
    go_ret
    exact ⟨rfl,B1.out⟩
  ·have e : chkW l = (kindQ l).2:=by unfold chkW;rw [if_neg h,if_pos hk]
   rw [e,errC_ne hk]
   rw [errC_ne hk] at KO
   have KOH:=hidE KO
   clear hr h e KO hk
   generalize (kindQ l).1 = k at *
   generalize (kindQ l).2 = c at *
   go_enter Tryz.func20,Tryz.ntmps20
   go_wp2_with fail
   refine KOH.out.mono ?_
   rintro r w1 ⟨rfl,hb⟩
   have B1:=hidE hb
   clear hb KOH
   go_wp2_with fail
   go_ret
   exact ⟨rfl,B1.out⟩
theorem checkAgg_any (a : AgQ) (v : Value) (w : World) (hl : a.of.length ≤ 1000) (hr : NodG w v a.of) :
  Calls Tryz.prog 19 #[.agg #[.int .i64 a.kind,v]] w fun e w' => e = .returned (errC (chkA a)) ∧ Below w.heap.size w w':=by
 obtain ⟨k,l⟩:=a
 simp only at hl hr ⊢
 obtain ⟨ao,cap,rfl⟩:=rowG_shape hr
 have ba:=below_alloc w (.cells #[.int .i64 k,.slice ao l.length cap] 46)
 have BA:=hidE ba
 have KO:=kindQ_any l _ _ hl (nodG_below hr ba)
 by_cases h0 : k < 1 ∨ 5 < k
 ·have e : chkA ⟨k,l⟩ = 3:=by unfold chkA;rw [if_pos h0]
  rw [e,errC_ne (by decide)]
  clear hr ba KO e
  by_cases h1 : k < 1
  ·clear h0
   go_enter Tryz.func19,Tryz.ntmps19
   go_wp2_with fail
   go_ret
   exact ⟨rfl,BA.out⟩
  ·have h2 : 5 < k:=by omega
   clear h0
   go_enter Tryz.func19,Tryz.ntmps19
   go_wp2_with fail
   go_ret
   exact ⟨rfl,BA.out⟩
 ·have h1 : ¬ k < 1:=by omega
  have h2 : ¬ 5 < k:=by omega
  by_cases hk1 : k = 1
  ·subst hk1
   by_cases hz : 0 < l.length
   ·have e : chkA ⟨1,l⟩ = 3:=by unfold chkA;rw [if_neg h0,if_pos rfl,if_pos hz]
    rw [e,errC_ne (by decide)]
    have h3 : (0 : Int) < (l.length : Int):=by omega
    clear hr ba KO e h0 h1 h2 hz
    go_enter Tryz.func19,Tryz.ntmps19
    go_wp2_with fail
    go_ret
    exact ⟨rfl,BA.out⟩
   ·have e : chkA ⟨1,l⟩ = 0:=by unfold chkA;rw [if_neg h0,if_pos rfl,if_neg hz]
    rw [e,errC_0]
    have h3 : l.length = 0:=by omega
    rw [h3] at *
    clear hr ba KO e h0 h1 h2 hz
    go_enter Tryz.func19,Tryz.ntmps19
    go_wp2_with fail
    go_ret
    exact ⟨rfl,below_alloc _ _⟩
  ·have hk1' : (k == 1) = false:=by simpa using hk1
   by_cases hk : (kindQ l).2 = 0
   ·rw [hk,errC_0] at KO
    by_cases h4 : (kindQ l).1 = 2
    ·rw [h4] at KO
     have KOH:=hidE KO
     by_cases h5 : k = 2
     ·have e : chkA ⟨k,l⟩ = 0:=by unfold chkA;rw [if_neg h0,if_neg hk1,if_neg (by simp [hk]),if_neg (by simp [h5])]
      rw [e,errC_0]
      subst h5
      clear hr ba KO e h0 h4 hk h1 h2 hk1
      go_enter Tryz.func19,Tryz.ntmps19
      go_wp2_with fail
      refine KOH.out.mono ?_
      rintro r w1 ⟨rfl,hb⟩
      have B1:=hidE (BA.out.trans (hb.mono BA.out.size))
      have c0:=hb.cell (p:=⟨w.heap.size,0,none⟩) (by simp)
      clear hb KOH
      go_wp2_with fail
      go_ret
      exact ⟨rfl,B1.out⟩
     ·have e : chkA ⟨k,l⟩ = 3:=by unfold chkA;rw [if_neg h0,if_neg hk1,if_neg (by simp [hk]),if_pos ⟨h4,h5⟩]
      rw [e,errC_ne (by decide)]
      have h5' : (k != 2) = true:=by simpa using h5
      clear hr ba KO e h0 h4 hk hk1
      go_enter Tryz.func19,Tryz.ntmps19
      go_wp2_with fail
      refine KOH.out.mono ?_
      rintro r w1 ⟨rfl,hb⟩
      have B1:=hidE (BA.out.trans (hb.mono BA.out.size))
      have c0:=hb.cell (p:=⟨w.heap.size,0,none⟩) (by simp)
      clear hb KOH
      go_wp2_with fail
      go_ret
      exact ⟨rfl,B1.out⟩
    ·have e : chkA ⟨k,l⟩ = 0:=by unfold chkA;rw [if_neg h0,if_neg hk1,if_neg (by simp [hk]),if_neg (by simp [h4])]
     rw [e,errC_0]
     have h4' : ((kindQ l).1 == 2) = false:=by simpa using h4
     have KOH:=hidE KO
     generalize (kindQ l).1 = c at *
     clear hr ba KO e h0 hk hk1
     go_enter Tryz.func19,Tryz.ntmps19
     go_wp2_with fail
     refine KOH.out.mono ?_
     rintro r w1 ⟨rfl,hb⟩
     have B1:=hidE (BA.out.trans (hb.mono BA.out.size))
     clear hb KOH
     go_wp2_with fail
     go_ret
     exact ⟨rfl,B1.out⟩
   ·have e : chkA ⟨k,l⟩ = (kindQ l).2:=by unfold chkA;rw [if_neg h0,if_neg hk1,if_pos hk]
    rw [e,errC_ne hk]
    rw [errC_ne hk] at KO
    have KOH:=hidE KO
    clear hr ba KO e h0 hk hk1
    generalize (kindQ l).1 = c at *
    generalize (kindQ l).2 = c2 at *
    go_enter Tryz.func19,Tryz.ntmps19
    go_wp2_with fail
    refine KOH.out.mono ?_
    rintro r w1 ⟨rfl,hb⟩
    have B1:=hidE (BA.out.trans (hb.mono BA.out.size))
    clear hb KOH
    go_wp2_with fail
    go_ret
    exact ⟨rfl,B1.out⟩
theorem checkWindow_any (va vw vb : Value) (hva : isSl va = true) (hvw : isSl vw = true) (hvb : isSl vb = true) (q : Qy) (w : World) :
  Calls Tryz.prog 22 #[.agg #[va,vw,vb,.int .i64 q.size,.int .i64 q.slide,.int .i64 q.delay,.int .i64 q.late]] w fun e w' => e = .returned (errC (chkS q)) ∧ Below w.heap.size w w':=by
 obtain ⟨a1,n1,c1,rfl⟩:=sl_shape hva
 obtain ⟨a2,n2,c2,rfl⟩:=sl_shape hvw
 obtain ⟨a3,n3,c3,rfl⟩:=sl_shape hvb
 obtain ⟨aggs,wh,bys,s,l,d,t⟩:=q
 simp only
 have BA:=hidE (below_alloc w (.cells #[.slice a1 n1 c1,.slice a2 n2 c2,.slice a3 n3 c3,.int .i64 s,.int .i64 l,.int .i64 d,.int .i64 t] 25))
 have i0 : ∀ a b w,(Instr.index 81 (.agg #[.int .i64 a,.int .i64 b]) (.int .i64 0)).run Tryz.prog w = .ok (.int .i64 a) w:=fun _ _ _ => by kernel_rfl
 have i1 : ∀ a b w,(Instr.index 81 (.agg #[.int .i64 a,.int .i64 b]) (.int .i64 1)).run Tryz.prog w = .ok (.int .i64 b) w:=fun _ _ _ => by kernel_rfl
 generalize hc : chkS ⟨aggs,wh,bys,s,l,d,t⟩ = c
 have HB : Hid ((s < 1 ∨ 1000 < s ∨ l < 1 ∨ 1000 < l ∨ d < 0 ∨ 1000 < d ∨ t < 0 ∨ 1000 < t) → c = 1):=fun h => by rw [← hc];unfold chkS;rw [if_pos h]
 have HC : Hid (¬ (s < 1 ∨ 1000 < s ∨ l < 1 ∨ 1000 < l ∨ d < 0 ∨ 1000 < d ∨ t < 0 ∨ 1000 < t) → (s < l ∨ 4 * l < s) → c = 3):=fun h h2 => by rw [← hc];unfold chkS;rw [if_neg h,if_pos h2]
 have HD : Hid (¬ (s < 1 ∨ 1000 < s ∨ l < 1 ∨ 1000 < l ∨ d < 0 ∨ 1000 < d ∨ t < 0 ∨ 1000 < t) → ¬ (s < l ∨ 4 * l < s) → c = 0):=fun h h2 => by rw [← hc];unfold chkS;rw [if_neg h,if_neg h2]
 clear hc hva hvw hvb
 go_enter Tryz.func22,Tryz.ntmps22
 go_wp2_with fail
 go_loop [12] (fun i => ∃ j : Nat,j ≤ 2 ∧ i = .int .i64 j ∧ (1 ≤ j → 1 ≤ s ∧ s ≤ 1000) ∧ (2 ≤ j → 1 ≤ l ∧ l ≤ 1000)) (fun i => 4 - (intOf i).toNat)
 case atStart => exact ⟨0,by omega,rfl,by omega,by omega⟩
 case round =>
  obtain ⟨j,hj,rfl,hs,hl⟩:=hrel
  have jj : j = 0 ∨ j = 1 ∨ j = 2:=by omega
  rcases jj with rfl | rfl | rfl
  ·clear hs hl hj
   by_cases h1 : s < 1
   ·have e : c = 1:=HB.out (by omega)
    subst e
    go_wp2_with fail
    go_ret
    exact ⟨rfl,BA.out⟩
   ·by_cases h2 : 1000 < s
    ·have e : c = 1:=HB.out (by omega)
     subst e
     go_wp2_with fail
     go_ret
     exact ⟨rfl,BA.out⟩
    ·go_wp2_with fail
     go_round
     case rel => exact ⟨1,by omega,rfl,by omega,by omega⟩
     case measure => simp [intOf]
  ·have hs:=hs (Nat.le_refl _)
   clear hl hj
   by_cases h1 : l < 1
   ·have e : c = 1:=HB.out (by omega)
    subst e
    go_wp2_with fail
    go_ret
    exact ⟨rfl,BA.out⟩
   ·by_cases h2 : 1000 < l
    ·have e : c = 1:=HB.out (by omega)
     subst e
     go_wp2_with fail
     go_ret
     exact ⟨rfl,BA.out⟩
    ·go_wp2_with fail
     go_round
     case rel => exact ⟨2,by omega,rfl,by omega,by omega⟩
     case measure => simp [intOf]
  ·have hs:=hs (by omega)
   have hl:=hl (Nat.le_refl _)
   clear hj
   go_wp2_with fail
   go_loop [28] (fun i => ∃ j : Nat,j ≤ 2 ∧ i = .int .i64 j ∧ (1 ≤ j → 0 ≤ d ∧ d ≤ 1000) ∧ (2 ≤ j → 0 ≤ t ∧ t ≤ 1000)) (fun i => 4 - (intOf i).toNat)
   case atStart => exact ⟨0,by omega,rfl,by omega,by omega⟩
   case round =>
    obtain ⟨j,hj,rfl,hd,ht⟩:=hrel
    have jj : j = 0 ∨ j = 1 ∨ j = 2:=by omega
    rcases jj with rfl | rfl | rfl
    ·clear hd ht hj
     by_cases h1 : d < 0
     ·have e : c = 1:=HB.out (by omega)
      subst e
      go_wp2_with fail
      go_ret
      exact ⟨rfl,BA.out⟩
     ·by_cases h2 : 1000 < d
      ·have e : c = 1:=HB.out (by omega)
       subst e
       go_wp2_with fail
       go_ret
       exact ⟨rfl,BA.out⟩
      ·go_wp2_with fail
       go_round
       case rel => exact ⟨1,by omega,rfl,by omega,by omega⟩
       case measure => simp [intOf]
    ·have hd:=hd (Nat.le_refl _)
     clear ht hj
     by_cases h1 : t < 0
     ·have e : c = 1:=HB.out (by omega)
      subst e
      go_wp2_with fail
      go_ret
      exact ⟨rfl,BA.out⟩
     ·by_cases h2 : 1000 < t
      ·have e : c = 1:=HB.out (by omega)
       subst e
       go_wp2_with fail
       go_ret
       exact ⟨rfl,BA.out⟩
      ·go_wp2_with fail
       go_round
       case rel => exact ⟨2,by omega,rfl,by omega,by omega⟩
       case measure => simp [intOf]
    ·have hd:=hd (by omega)
     have ht:=ht (Nat.le_refl _)
     have hg : ¬ (s < 1 ∨ 1000 < s ∨ l < 1 ∨ 1000 < l ∨ d < 0 ∨ 1000 < d ∨ t < 0 ∨ 1000 < t):=by omega
     clear hj
     have wr : IntKind.i64.wrap (4 * l) = 4 * l:=wrapIn2 _ (by omega) (by omega)
     by_cases h1 : s < l
     ·have e : c = 3:=HC.out hg (.inl h1)
      subst e
      clear hg
      go_wp2_with fail
      go_ret
      exact ⟨rfl,BA.out⟩
     ·by_cases h2 : 4 * l < s
      ·have e : c = 3:=HC.out hg (.inr h2)
       subst e
       clear hg
       go_wp2_with fail
       go_ret
       exact ⟨rfl,BA.out⟩
      ·have e : c = 0:=HD.out hg (by omega)
       subst e
       clear hg
       go_wp2_with fail
       go_ret
       exact ⟨rfl,BA.out⟩
end Go.Proofs.YteaanpdckkmjoaaGreatDoor

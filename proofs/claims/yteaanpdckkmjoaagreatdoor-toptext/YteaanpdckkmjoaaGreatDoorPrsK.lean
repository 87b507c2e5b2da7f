/- The law question's optional parts, over this seat's translation. Conditions: as named. -/
import Derived.Test.YteaanpdckkmjoaaGreatDoorPrsJ
namespace Go.Proofs.YteaanpdckkmjoaaGreatDoor
open Go.ChangeShapes Go.WideShapes Go.ChangeAt Go.RowKit
set_option linter.unusedVariables false
set_option linter.unusedSimpArgs false

set_option maxRecDepth 100000 in
set_option maxHeartbeats 8000000 in
theorem qOpt8 (Q : Exit → Act → World → Prop) (C8 : Code) (h8 : rgn 8 (Tryz.f31.body.getD .skip) = some C8) (C9 : Code) (h9 : rgn 9 (Tryz.f31.body.getD .skip) = some C9) (t : List Value) (gp gm gr gq : Nat) (st : St) (va vw vb : Value) (q : Qy) (W w : World) (hw0 : vw = .slice none 0 0) (hq0 : q.wh = []) (ht : t.length = 71) (k0 : t[0]? = some (.pointer (some ⟨gp, 0, none⟩))) (k2 : t[2]? = some (.pointer (some ⟨gr, 0, none⟩))) (k3 : t[3]? = some (.pointer (some ⟨gq, 0, none⟩)))
    (h : QS W w gp gm gr gq st va vw vb q)
    (hQ : ∀ (t' : List Value) (vw' : Value) (w' : World), t'.length = 71 → t'[0]? = some (.pointer (some ⟨gp, 0, none⟩)) → t'[2]? = some (.pointer (some ⟨gr, 0, none⟩)) → t'[3]? = some (.pointer (some ⟨gq, 0, none⟩)) → QS W w' gp gm gr gq (whereS st).2 va vw' vb { q with wh := (whereS st).1 } → Q .normal { tmps := t'.toArray, defers := [] } w') :
    Code.wp Tryz.prog (.seq C8 (.cond (.tmp 27) C9 .skip)) Q { tmps := t.toArray, defers := [] } w := by
  have HQ := hidE hQ
  have H := hidE h
  clear hQ h
  have TK := ts_take gp gm wWhere (by decide) st w H.out.ps
  subst hw0
  obtain ⟨f, hf, hi⟩ := listed t ht
  have e0 := some_at (hi 0 (by decide)) k0
  have e2 := some_at (hi 2 (by decide)) k2
  have e3 := some_at (hi 3 (by decide)) k3
  rw [e0, e2, e3] at hf
  clear hi ht k0 e0 k2 e2 k3 e3
  subst hf
  unfold Tryz.f31 at h8
  simp [rgn] at h8
  subst h8
  unfold Tryz.f31 at h9
  simp [rgn] at h9
  subst h9
  cases hb : (takeS wWhere st).1 with
  | false =>
    rw [hb, take_no hb] at TK
    have TKH := hidE TK
    have EV := hidE (show whereS st = ([], st) by unfold whereS; rw [hb, take_no hb]; rfl)
    clear TK hb
    go_wp2_with fail
    refine TKH.out.mono ?_
    rintro r w1 ⟨rfl, hk, hp⟩
    have H1 := hidE (qs_call H.out hk hp id)
    clear hk hp TKH H
    go_wp2_with fail
    refine HQ.out _ (.slice none 0 0) _ rfl rfl rfl rfl ?_
    rw [EV.out]
    rw [← hq0]
    exact H1.out
  | true =>
    rw [hb] at TK
    have TKH := hidE TK
    have EV := hidE (show whereS st = exprS (takeS wWhere st).2 by unfold whereS; rw [hb]; rfl)
    have EX := hidE (fun w hp => ts_expr gp gm (takeS wWhere st).2 w hp)
    clear TK hb
    go_wp2_with fail
    refine TKH.out.mono ?_
    rintro r w1 ⟨rfl, hk, hp⟩
    have H1 := hidE (qs_call H.out hk hp okS_take)
    have E1 := hidE (EX.out w1 hp)
    clear hk hp TKH H EX
    go_wp2_with fail
    refine E1.out.mono ?_
    rintro r w2 ⟨v9, rfl, hn, hk, hp⟩
    have H2 := hidE (qs_call H1.out hk hp okS_expr)
    obtain ⟨a9, n9, c9, rfl⟩ := sl_shape hn.1
    have O2 := hidE (show OptS w2 (gp + 1) (.slice a9 n9 c9) (exprS (takeS wWhere st).2).1 (okS (exprS (takeS wWhere st).2).2) from ⟨hn.1, fun e => .inr (hn.2 e)⟩)
    have BS := blk_set H2.out.bq 1 (.slice a9 n9 c9) (by simp)
    have H3 := hidE (qs_store H2.out 1 (.slice a9 n9 c9) (va' := va) (vw' := .slice a9 n9 c9) (vb' := vb) (q' := { q with wh := (exprS (takeS wWhere st).2).1 }) (by simpa using BS) H2.out.ag O2.out H2.out.hb)
    have f1 := H2.out.bq.fz 1
    have c1 := H2.out.bq.c 1 (by simp)
    simp only [List.getElem?_cons_zero, List.getElem?_cons_succ] at c1
    clear hk hp hn E1 H1 H2 BS O2
    go_wp2_with fail
    refine HQ.out _ (.slice a9 n9 c9) _ rfl rfl rfl rfl ?_
    rw [EV.out]
    exact H3.out
set_option maxRecDepth 100000 in
set_option maxHeartbeats 8000000 in
theorem qOpt10 (Q : Exit → Act → World → Prop) (C10 : Code) (h10 : rgn 10 (Tryz.f31.body.getD .skip) = some C10) (C11 : Code) (h11 : rgn 11 (Tryz.f31.body.getD .skip) = some C11) (C12 : Code) (h12 : rgn 12 (Tryz.f31.body.getD .skip) = some C12) (t : List Value) (gp gm gr gq : Nat) (st : St) (va vw vb : Value) (q : Qy) (W w : World) (hw0 : vb = .slice none 0 0) (hq0 : q.bys = []) (ht : t.length = 71) (k0 : t[0]? = some (.pointer (some ⟨gp, 0, none⟩))) (k2 : t[2]? = some (.pointer (some ⟨gr, 0, none⟩))) (k3 : t[3]? = some (.pointer (some ⟨gq, 0, none⟩)))
    (h : QS W w gp gm gr gq st va vw vb q)
    (hQ : ∀ (t' : List Value) (vb' : Value) (w' : World), t'.length = 71 → t'[0]? = some (.pointer (some ⟨gp, 0, none⟩)) → t'[2]? = some (.pointer (some ⟨gr, 0, none⟩)) → t'[3]? = some (.pointer (some ⟨gq, 0, none⟩)) → QS W w' gp gm gr gq (groupS st).2 va vw vb' { q with bys := (groupS st).1 } → Q .normal { tmps := t'.toArray, defers := [] } w') :
    Code.wp Tryz.prog (.seq C10 (.cond (.tmp 32) (.seq C11 C12) .skip)) Q { tmps := t.toArray, defers := [] } w := by
  have HQ := hidE hQ
  have H := hidE h
  clear hQ h
  have TK := ts_take gp gm wGroup (by decide) st w H.out.ps
  subst hw0
  obtain ⟨f, hf, hi⟩ := listed t ht
  have e0 := some_at (hi 0 (by decide)) k0
  have e2 := some_at (hi 2 (by decide)) k2
  have e3 := some_at (hi 3 (by decide)) k3
  rw [e0, e2, e3] at hf
  clear hi ht k0 e0 k2 e2 k3 e3
  subst hf
  unfold Tryz.f31 at h10
  simp [rgn] at h10
  subst h10
  unfold Tryz.f31 at h11
  simp [rgn] at h11
  subst h11
  unfold Tryz.f31 at h12
  simp [rgn] at h12
  subst h12
  cases hb : (takeS wGroup st).1 with
  | false =>
    rw [hb, take_no hb] at TK
    have TKH := hidE TK
    have EV := hidE (show groupS st = ([], st) by unfold groupS; rw [hb, take_no hb]; rfl)
    clear TK hb
    go_wp2_with fail
    refine TKH.out.mono ?_
    rintro r w1 ⟨rfl, hk, hp⟩
    have H1 := hidE (qs_call H.out hk hp id)
    clear hk hp TKH H
    go_wp2_with fail
    refine HQ.out _ (.slice none 0 0) _ rfl rfl rfl rfl ?_
    rw [EV.out]
    rw [← hq0]
    exact H1.out
  | true =>
    rw [hb] at TK
    have TKH := hidE TK
    have EV := hidE (show groupS st = exprS (mustS wBy (takeS wGroup st).2) by unfold groupS; rw [hb]; rfl)
    have MU := hidE (fun w hp => ts_must gp gm wBy (by decide) (takeS wGroup st).2 w hp)
    have EX := hidE (fun w hp => ts_expr gp gm (mustS wBy (takeS wGroup st).2) w hp)
    clear TK hb
    go_wp2_with fail
    refine TKH.out.mono ?_
    rintro r w1 ⟨rfl, hk, hp⟩
    have H1 := hidE (qs_call H.out hk hp okS_take)
    have M1 := hidE (MU.out w1 hp)
    clear hk hp TKH H MU
    go_wp2_with fail
    refine M1.out.mono ?_
    rintro r w2 ⟨rfl, hk, hp⟩
    have H1' := hidE (qs_call H1.out hk hp okS_must)
    have E1 := hidE (EX.out w2 hp)
    clear hk hp M1 H1 EX
    go_wp2_with fail
    refine E1.out.mono ?_
    rintro r w3 ⟨v9, rfl, hn, hk, hp⟩
    have H2 := hidE (qs_call H1'.out hk hp okS_expr)
    obtain ⟨a9, n9, c9, rfl⟩ := sl_shape hn.1
    have O2 := hidE (show OptS w3 (gp + 1) (.slice a9 n9 c9) (exprS (mustS wBy (takeS wGroup st).2)).1 (okS (exprS (mustS wBy (takeS wGroup st).2)).2) from ⟨hn.1, fun e => .inr (hn.2 e)⟩)
    have BS := blk_set H2.out.bq 2 (.slice a9 n9 c9) (by simp)
    have H3 := hidE (qs_store H2.out 2 (.slice a9 n9 c9) (va' := va) (vw' := vw) (vb' := .slice a9 n9 c9) (q' := { q with bys := (exprS (mustS wBy (takeS wGroup st).2)).1 }) (by simpa using BS) H2.out.ag H2.out.hw O2.out)
    have f1 := H2.out.bq.fz 2
    have c1 := H2.out.bq.c 2 (by simp)
    simp only [List.getElem?_cons_zero, List.getElem?_cons_succ] at c1
    clear hk hp hn E1 H1' H2 BS O2
    go_wp2_with fail
    refine HQ.out _ (.slice a9 n9 c9) _ rfl rfl rfl rfl ?_
    rw [EV.out]
    exact H3.out
set_option maxRecDepth 100000 in
set_option maxHeartbeats 8000000 in
theorem qSize (Q : Exit → Act → World → Prop) (X : Code) (C14 : Code) (h14 : rgn 14 (Tryz.f31.body.getD .skip) = some C14) (C15 : Code) (h15 : rgn 15 (Tryz.f31.body.getD .skip) = some C15) (t : List Value) (gp gm gr gq : Nat) (st : St) (va vw vb : Value) (q : Qy) (W w : World) (ht : t.length = 71) (k0 : t[0]? = some (.pointer (some ⟨gp, 0, none⟩))) (k2 : t[2]? = some (.pointer (some ⟨gr, 0, none⟩))) (k3 : t[3]? = some (.pointer (some ⟨gq, 0, none⟩)))
    (h : QS W w gp gm gr gq st va vw vb q)
    (hQ : ∀ (t' : List Value)  (w' : World), t'.length = 71 → t'[0]? = some (.pointer (some ⟨gp, 0, none⟩)) → t'[2]? = some (.pointer (some ⟨gr, 0, none⟩)) → t'[3]? = some (.pointer (some ⟨gq, 0, none⟩)) → QS W w' gp gm gr gq (spanS st).2 va vw vb { q with size := (spanS st).1, slide := (spanS st).1 } → Code.wp Tryz.prog X Q { tmps := t'.toArray, defers := [] } w') :
    Code.wp Tryz.prog (.seq C14 (.seq C15 X)) Q { tmps := t.toArray, defers := [] } w := by
  have HQ := hidE hQ
  have H := hidE h
  clear hQ h
  have EX := hidE (ts_span gp gm st w H.out.ps)
  obtain ⟨f, hf, hi⟩ := listed t ht
  have e0 := some_at (hi 0 (by decide)) k0
  have e2 := some_at (hi 2 (by decide)) k2
  have e3 := some_at (hi 3 (by decide)) k3
  rw [e0, e2, e3] at hf
  clear hi ht k0 e0 k2 e2 k3 e3
  subst hf
  unfold Tryz.f31 at h14
  simp [rgn] at h14
  subst h14
  unfold Tryz.f31 at h15
  simp [rgn] at h15
  subst h15
  go_wp2_with fail
  refine EX.out.mono ?_
  rintro r w1 ⟨rfl, hk, hp⟩
  have H2 := hidE (qs_call H.out hk hp okS_span)
  have BS := blk_set H2.out.bq 3 (.int .i64 (spanS st).1) (by simp)
  have H3 := hidE (qs_store H2.out 3 (.int .i64 (spanS st).1) (va' := va) (vw' := vw) (vb' := vb) (q' := { q with size := (spanS st).1 }) (by simpa using BS) H2.out.ag H2.out.hw H2.out.hb)
  have BS2 := blk_set H3.out.bq 4 (.int .i64 (spanS st).1) (by simp)
  have H4 := hidE (qs_store H3.out 4 (.int .i64 (spanS st).1) (va' := va) (vw' := vw) (vb' := vb) (q' := { q with size := (spanS st).1, slide := (spanS st).1 }) (by simpa using BS2) H3.out.ag H3.out.hw H3.out.hb)
  have f1 := H2.out.bq.fz 3
  have c1 := H2.out.bq.c 3 (by simp)
  have f2 := H3.out.bq.fz 4
  have f2' := H2.out.bq.fz 4
  have c2' := H2.out.bq.c 4 (by simp)
  have c2 := H3.out.bq.c 3 (by simp)
  have c3 := H3.out.bq.c 4 (by simp)
  simp only [List.getElem?_cons_zero, List.getElem?_cons_succ] at c1 c2 c3 c2'
  clear hk hp EX H H2 H3 BS BS2
  go_wp2_with fail
  exact HQ.out _  _ rfl rfl rfl rfl H4.out
set_option maxRecDepth 100000 in
set_option maxHeartbeats 8000000 in
theorem qOpt16 (Q : Exit → Act → World → Prop) (C16 : Code) (h16 : rgn 16 (Tryz.f31.body.getD .skip) = some C16) (C17 : Code) (h17 : rgn 17 (Tryz.f31.body.getD .skip) = some C17) (t : List Value) (gp gm gr gq : Nat) (st : St) (va vw vb : Value) (q : Qy) (W w : World) (ht : t.length = 71) (k0 : t[0]? = some (.pointer (some ⟨gp, 0, none⟩))) (k2 : t[2]? = some (.pointer (some ⟨gr, 0, none⟩))) (k3 : t[3]? = some (.pointer (some ⟨gq, 0, none⟩)))
    (h : QS W w gp gm gr gq st va vw vb q)
    (hQ : ∀ (t' : List Value)  (w' : World), t'.length = 71 → t'[0]? = some (.pointer (some ⟨gp, 0, none⟩)) → t'[2]? = some (.pointer (some ⟨gr, 0, none⟩)) → t'[3]? = some (.pointer (some ⟨gq, 0, none⟩)) → QS W w' gp gm gr gq (optS wSlide q.slide st).2 va vw vb { q with slide := (optS wSlide q.slide st).1 } → Q .normal { tmps := t'.toArray, defers := [] } w') :
    Code.wp Tryz.prog (.seq C16 (.cond (.tmp 47) C17 .skip)) Q { tmps := t.toArray, defers := [] } w := by
  have HQ := hidE hQ
  have H := hidE h
  clear hQ h
  have TK := ts_take gp gm wSlide (by decide) st w H.out.ps
  obtain ⟨f, hf, hi⟩ := listed t ht
  have e0 := some_at (hi 0 (by decide)) k0
  have e2 := some_at (hi 2 (by decide)) k2
  have e3 := some_at (hi 3 (by decide)) k3
  rw [e0, e2, e3] at hf
  clear hi ht k0 e0 k2 e2 k3 e3
  subst hf
  unfold Tryz.f31 at h16
  simp [rgn] at h16
  subst h16
  unfold Tryz.f31 at h17
  simp [rgn] at h17
  subst h17
  cases hb : (takeS wSlide st).1 with
  | false =>
    rw [hb, take_no hb] at TK
    have TKH := hidE TK
    have EV := hidE (show optS wSlide q.slide st = (q.slide, st) by unfold optS; rw [hb, take_no hb]; rfl)
    clear TK hb
    go_wp2_with fail
    refine TKH.out.mono ?_
    rintro r w1 ⟨rfl, hk, hp⟩
    have H1 := hidE (qs_call H.out hk hp id)
    clear hk hp TKH H
    go_wp2_with fail
    refine HQ.out _ _ rfl rfl rfl rfl ?_
    rw [EV.out]
    
    exact H1.out
  | true =>
    rw [hb] at TK
    have TKH := hidE TK
    have EV := hidE (show optS wSlide q.slide st = spanS (takeS wSlide st).2 by unfold optS; rw [hb]; rfl)
    have EX := hidE (fun w hp => ts_span gp gm (takeS wSlide st).2 w hp)
    clear TK hb
    go_wp2_with fail
    refine TKH.out.mono ?_
    rintro r w1 ⟨rfl, hk, hp⟩
    have H1 := hidE (qs_call H.out hk hp okS_take)
    have E1 := hidE (EX.out w1 hp)
    clear hk hp TKH H EX
    go_wp2_with fail
    refine E1.out.mono ?_
    rintro r w2 ⟨rfl, hk, hp⟩
    have H2 := hidE (qs_call H1.out hk hp okS_span)
    have BS := blk_set H2.out.bq 4 (.int .i64 (spanS (takeS wSlide st).2).1) (by simp)
    have H3 := hidE (qs_store H2.out 4 (.int .i64 (spanS (takeS wSlide st).2).1) (va' := va) (vw' := vw) (vb' := vb) (q' := { q with slide := (spanS (takeS wSlide st).2).1 }) (by simpa using BS) H2.out.ag H2.out.hw H2.out.hb)
    have f1 := H2.out.bq.fz 4
    have c1 := H2.out.bq.c 4 (by simp)
    simp only [List.getElem?_cons_zero, List.getElem?_cons_succ] at c1
    clear hk hp E1 H1 H2 BS
    go_wp2_with fail
    refine HQ.out _ _ rfl rfl rfl rfl ?_
    rw [EV.out]
    exact H3.out
set_option maxRecDepth 100000 in
set_option maxHeartbeats 8000000 in
theorem qOpt18 (Q : Exit → Act → World → Prop) (C18 : Code) (h18 : rgn 18 (Tryz.f31.body.getD .skip) = some C18) (C19 : Code) (h19 : rgn 19 (Tryz.f31.body.getD .skip) = some C19) (t : List Value) (gp gm gr gq : Nat) (st : St) (va vw vb : Value) (q : Qy) (W w : World) (ht : t.length = 71) (k0 : t[0]? = some (.pointer (some ⟨gp, 0, none⟩))) (k2 : t[2]? = some (.pointer (some ⟨gr, 0, none⟩))) (k3 : t[3]? = some (.pointer (some ⟨gq, 0, none⟩)))
    (h : QS W w gp gm gr gq st va vw vb q)
    (hQ : ∀ (t' : List Value)  (w' : World), t'.length = 71 → t'[0]? = some (.pointer (some ⟨gp, 0, none⟩)) → t'[2]? = some (.pointer (some ⟨gr, 0, none⟩)) → t'[3]? = some (.pointer (some ⟨gq, 0, none⟩)) → QS W w' gp gm gr gq (optS wDelay q.delay st).2 va vw vb { q with delay := (optS wDelay q.delay st).1 } → Q .normal { tmps := t'.toArray, defers := [] } w') :
    Code.wp Tryz.prog (.seq C18 (.cond (.tmp 52) C19 .skip)) Q { tmps := t.toArray, defers := [] } w := by
  have HQ := hidE hQ
  have H := hidE h
  clear hQ h
  have TK := ts_take gp gm wDelay (by decide) st w H.out.ps
  obtain ⟨f, hf, hi⟩ := listed t ht
  have e0 := some_at (hi 0 (by decide)) k0
  have e2 := some_at (hi 2 (by decide)) k2
  have e3 := some_at (hi 3 (by decide)) k3
  rw [e0, e2, e3] at hf
  clear hi ht k0 e0 k2 e2 k3 e3
  subst hf
  unfold Tryz.f31 at h18
  simp [rgn] at h18
  subst h18
  unfold Tryz.f31 at h19
  simp [rgn] at h19
  subst h19
  cases hb : (takeS wDelay st).1 with
  | false =>
    rw [hb, take_no hb] at TK
    have TKH := hidE TK
    have EV := hidE (show optS wDelay q.delay st = (q.delay, st) by unfold optS; rw [hb, take_no hb]; rfl)
    clear TK hb
    go_wp2_with fail
    refine TKH.out.mono ?_
    rintro r w1 ⟨rfl, hk, hp⟩
    have H1 := hidE (qs_call H.out hk hp id)
    clear hk hp TKH H
    go_wp2_with fail
    refine HQ.out _ _ rfl rfl rfl rfl ?_
    rw [EV.out]
    
    exact H1.out
  | true =>
    rw [hb] at TK
    have TKH := hidE TK
    have EV := hidE (show optS wDelay q.delay st = spanS (takeS wDelay st).2 by unfold optS; rw [hb]; rfl)
    have EX := hidE (fun w hp => ts_span gp gm (takeS wDelay st).2 w hp)
    clear TK hb
    go_wp2_with fail
    refine TKH.out.mono ?_
    rintro r w1 ⟨rfl, hk, hp⟩
    have H1 := hidE (qs_call H.out hk hp okS_take)
    have E1 := hidE (EX.out w1 hp)
    clear hk hp TKH H EX
    go_wp2_with fail
    refine E1.out.mono ?_
    rintro r w2 ⟨rfl, hk, hp⟩
    have H2 := hidE (qs_call H1.out hk hp okS_span)
    have BS := blk_set H2.out.bq 5 (.int .i64 (spanS (takeS wDelay st).2).1) (by simp)
    have H3 := hidE (qs_store H2.out 5 (.int .i64 (spanS (takeS wDelay st).2).1) (va' := va) (vw' := vw) (vb' := vb) (q' := { q with delay := (spanS (takeS wDelay st).2).1 }) (by simpa using BS) H2.out.ag H2.out.hw H2.out.hb)
    have f1 := H2.out.bq.fz 5
    have c1 := H2.out.bq.c 5 (by simp)
    simp only [List.getElem?_cons_zero, List.getElem?_cons_succ] at c1
    clear hk hp E1 H1 H2 BS
    go_wp2_with fail
    refine HQ.out _ _ rfl rfl rfl rfl ?_
    rw [EV.out]
    exact H3.out
set_option maxRecDepth 100000 in
set_option maxHeartbeats 8000000 in
theorem qOpt20 (Q : Exit → Act → World → Prop) (C20 : Code) (h20 : rgn 20 (Tryz.f31.body.getD .skip) = some C20) (C21 : Code) (h21 : rgn 21 (Tryz.f31.body.getD .skip) = some C21) (t : List Value) (gp gm gr gq : Nat) (st : St) (va vw vb : Value) (q : Qy) (W w : World) (ht : t.length = 71) (k0 : t[0]? = some (.pointer (some ⟨gp, 0, none⟩))) (k2 : t[2]? = some (.pointer (some ⟨gr, 0, none⟩))) (k3 : t[3]? = some (.pointer (some ⟨gq, 0, none⟩)))
    (h : QS W w gp gm gr gq st va vw vb q)
    (hQ : ∀ (t' : List Value)  (w' : World), t'.length = 71 → t'[0]? = some (.pointer (some ⟨gp, 0, none⟩)) → t'[2]? = some (.pointer (some ⟨gr, 0, none⟩)) → t'[3]? = some (.pointer (some ⟨gq, 0, none⟩)) → QS W w' gp gm gr gq (optS wLate q.late st).2 va vw vb { q with late := (optS wLate q.late st).1 } → Q .normal { tmps := t'.toArray, defers := [] } w') :
    Code.wp Tryz.prog (.seq C20 (.cond (.tmp 57) C21 .skip)) Q { tmps := t.toArray, defers := [] } w := by
  have HQ := hidE hQ
  have H := hidE h
  clear hQ h
  have TK := ts_take gp gm wLate (by decide) st w H.out.ps
  obtain ⟨f, hf, hi⟩ := listed t ht
  have e0 := some_at (hi 0 (by decide)) k0
  have e2 := some_at (hi 2 (by decide)) k2
  have e3 := some_at (hi 3 (by decide)) k3
  rw [e0, e2, e3] at hf
  clear hi ht k0 e0 k2 e2 k3 e3
  subst hf
  unfold Tryz.f31 at h20
  simp [rgn] at h20
  subst h20
  unfold Tryz.f31 at h21
  simp [rgn] at h21
  subst h21
  cases hb : (takeS wLate st).1 with
  | false =>
    rw [hb, take_no hb] at TK
    have TKH := hidE TK
    have EV := hidE (show optS wLate q.late st = (q.late, st) by unfold optS; rw [hb, take_no hb]; rfl)
    clear TK hb
    go_wp2_with fail
    refine TKH.out.mono ?_
    rintro r w1 ⟨rfl, hk, hp⟩
    have H1 := hidE (qs_call H.out hk hp id)
    clear hk hp TKH H
    go_wp2_with fail
    refine HQ.out _ _ rfl rfl rfl rfl ?_
    rw [EV.out]
    
    exact H1.out
  | true =>
    rw [hb] at TK
    have TKH := hidE TK
    have EV := hidE (show optS wLate q.late st = spanS (takeS wLate st).2 by unfold optS; rw [hb]; rfl)
    have EX := hidE (fun w hp => ts_span gp gm (takeS wLate st).2 w hp)
    clear TK hb
    go_wp2_with fail
    refine TKH.out.mono ?_
    rintro r w1 ⟨rfl, hk, hp⟩
    have H1 := hidE (qs_call H.out hk hp okS_take)
    have E1 := hidE (EX.out w1 hp)
    clear hk hp TKH H EX
    go_wp2_with fail
    refine E1.out.mono ?_
    rintro r w2 ⟨rfl, hk, hp⟩
    have H2 := hidE (qs_call H1.out hk hp okS_span)
    have BS := blk_set H2.out.bq 6 (.int .i64 (spanS (takeS wLate st).2).1) (by simp)
    have H3 := hidE (qs_store H2.out 6 (.int .i64 (spanS (takeS wLate st).2).1) (va' := va) (vw' := vw) (vb' := vb) (q' := { q with late := (spanS (takeS wLate st).2).1 }) (by simpa using BS) H2.out.ag H2.out.hw H2.out.hb)
    have f1 := H2.out.bq.fz 6
    have c1 := H2.out.bq.c 6 (by simp)
    simp only [List.getElem?_cons_zero, List.getElem?_cons_succ] at c1
    clear hk hp E1 H1 H2 BS
    go_wp2_with fail
    refine HQ.out _ _ rfl rfl rfl rfl ?_
    rw [EV.out]
    exact H3.out
end Go.Proofs.YteaanpdckkmjoaaGreatDoor

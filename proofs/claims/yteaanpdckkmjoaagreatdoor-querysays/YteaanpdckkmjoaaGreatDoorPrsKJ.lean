/- Several texts in one, each with its own head. What is proved: what the parts say. Conditions: theirs. -/
import Derived.Test.YteaanpdckkmjoaaGreatDoorPrsJ
import Derived.Test.YteaanpdckkmjoaaGreatDoorPrsEJ
import Derived.Test.YteaanpdckkmjoaaGreatDoorRq5J
set_option linter.unusedVariables false
set_option linter.unusedSimpArgs false
set_option maxRecDepth 100000
set_option maxHeartbeats 8000000
namespace Go.Proofs.YteaanpdckkmjoaaGreatDoor
open Go.ChangeShapes Go.WideShapes Go.ChangeAt Go.RowKit
theorem qOpt8 (Q : Exit → Act → World → Prop) (C8 : Code) (h8 : rgn 8 (Tryz.f31.body.getD .skip) = some C8) (C9 : Code) (h9 : rgn 9 (Tryz.f31.body.getD .skip) = some C9) (t : List Value) (gp gm gr gq : Nat) (st : St) (va vw vb : Value) (q : Qy) (W w : World) (hw0 : vw = .slice none 0 0) (hq0 : q.wh = []) (ht : t.length = 71) (k0 : t[0]? = some (.pointer (some ⟨gp,0,none⟩))) (k2 : t[2]? = some (.pointer (some ⟨gr,0,none⟩))) (k3 : t[3]? = some (.pointer (some ⟨gq,0,none⟩)))
  (h : QS W w gp gm gr gq st va vw vb q)
  (hQ : ∀ (t' : List Value) (vw' : Value) (w' : World),t'.length = 71 → t'[0]? = some (.pointer (some ⟨gp,0,none⟩)) → t'[2]? = some (.pointer (some ⟨gr,0,none⟩)) → t'[3]? = some (.pointer (some ⟨gq,0,none⟩)) → QS W w' gp gm gr gq (whereS st).2 va vw' vb { q with wh:=(whereS st).1 } → Q .normal { tmps:=t'.toArray,defers:=[] } w') :
  Code.wp Tryz.prog (.seq C8 (.cond (.tmp 27) C9 .skip)) Q { tmps:=t.toArray,defers:=[] } w:=by
 have HQ:=hidE hQ
 have H:=hidE h
 clear hQ h
 have TK:=ts_take gp gm wWhere (by decide) st w H.out.ps
 subst hw0
 obtain ⟨f,hf,hi⟩:=listed t ht
 have e0:=some_at (hi 0 (by decide)) k0
 have e2:=some_at (hi 2 (by decide)) k2
 have e3:=some_at (hi 3 (by decide)) k3
 rw [e0,e2,e3] at hf
 clear hi ht k0 e0 k2 e2 k3 e3
 subst hf
 unfold Tryz.f31 at h8
 simp [rgn] at h8
 subst h8
 unfold Tryz.f31 at h9
 simp [rgn] at h9
 subst h9
 cases hb : (takeS wWhere st).1 with
 | false =>
  rw [hb,take_no hb] at TK
  have TKH:=hidE TK
  have EV:=hidE (show whereS st = ([],st) by unfold whereS;rw [hb,take_no hb];rfl)
  clear TK hb
  go_wp2_with fail
  refine TKH.out.mono ?_
  rintro r w1 ⟨rfl,hk,hp⟩
  have H1:=hidE (qs_call H.out hk hp id)
  clear hk hp TKH H
  go_wp2_with fail
  refine HQ.out _ (.slice none 0 0) _ rfl rfl rfl rfl ?_
  rw [EV.out]
  rw [← hq0]
  exact H1.out
 | true =>
  rw [hb] at TK
  have TKH:=hidE TK
  have EV:=hidE (show whereS st = exprS (takeS wWhere st).2 by unfold whereS;rw [hb];rfl)
  have EX:=hidE (fun w hp => ts_expr gp gm (takeS wWhere st).2 w hp)
  clear TK hb
  go_wp2_with fail
  refine TKH.out.mono ?_
  rintro r w1 ⟨rfl,hk,hp⟩
  have H1:=hidE (qs_call H.out hk hp okS_take)
  have E1:=hidE (EX.out w1 hp)
  clear hk hp TKH H EX
  go_wp2_with fail
  refine E1.out.mono ?_
  rintro r w2 ⟨v9,rfl,hn,hk,hp⟩
  have H2:=hidE (qs_call H1.out hk hp okS_expr)
  obtain ⟨a9,n9,c9,rfl⟩:=sl_shape hn.1
  have O2:=hidE (show OptS w2 (gp + 1) (.slice a9 n9 c9) (exprS (takeS wWhere st).2).1 (okS (exprS (takeS wWhere st).2).2) from ⟨hn.1,fun e => .inr (hn.2 e)⟩)
  have BS:=blk_set H2.out.bq 1 (.slice a9 n9 c9) (by simp)
  have H3:=hidE (qs_store H2.out 1 (.slice a9 n9 c9) (va':=va) (vw':=.slice a9 n9 c9) (vb':=vb) (q':={ q with wh:=(exprS (takeS wWhere st).2).1 }) (by simpa using BS) H2.out.ag O2.out H2.out.hb)
  have f1:=H2.out.bq.fz 1
  have c1:=H2.out.bq.c 1 (by simp)
  simp only [List.getElem?_cons_zero,List.getElem?_cons_succ] at c1
  clear hk hp hn E1 H1 H2 BS O2
  go_wp2_with fail
  refine HQ.out _ (.slice a9 n9 c9) _ rfl rfl rfl rfl ?_
  rw [EV.out]
  exact H3.out
theorem qOpt10 (Q : Exit → Act → World → Prop) (C10 : Code) (h10 : rgn 10 (Tryz.f31.body.getD .skip) = some C10) (C11 : Code) (h11 : rgn 11 (Tryz.f31.body.getD .skip) = some C11) (C12 : Code) (h12 : rgn 12 (Tryz.f31.body.getD .skip) = some C12) (t : List Value) (gp gm gr gq : Nat) (st : St) (va vw vb : Value) (q : Qy) (W w : World) (hw0 : vb = .slice none 0 0) (hq0 : q.bys = []) (ht : t.length = 71) (k0 : t[0]? = some (.pointer (some ⟨gp,0,none⟩))) (k2 : t[2]? = some (.pointer (some ⟨gr,0,none⟩))) (k3 : t[3]? = some (.pointer (some ⟨gq,0,none⟩)))
  (h : QS W w gp gm gr gq st va vw vb q)
  (hQ : ∀ (t' : List Value) (vb' : Value) (w' : World),t'.length = 71 → t'[0]? = some (.pointer (some ⟨gp,0,none⟩)) → t'[2]? = some (.pointer (some ⟨gr,0,none⟩)) → t'[3]? = some (.pointer (some ⟨gq,0,none⟩)) → QS W w' gp gm gr gq (groupS st).2 va vw vb' { q with bys:=(groupS st).1 } → Q .normal { tmps:=t'.toArray,defers:=[] } w') :
  Code.wp Tryz.prog (.seq C10 (.cond (.tmp 32) (.seq C11 C12) .skip)) Q { tmps:=t.toArray,defers:=[] } w:=by
 have HQ:=hidE hQ
 have H:=hidE h
 clear hQ h
 have TK:=ts_take gp gm wGroup (by decide) st w H.out.ps
 subst hw0
 obtain ⟨f,hf,hi⟩:=listed t ht
 have e0:=some_at (hi 0 (by decide)) k0
 have e2:=some_at (hi 2 (by decide)) k2
 have e3:=some_at (hi 3 (by decide)) k3
 rw [e0,e2,e3] at hf
 clear hi ht k0 e0 k2 e2 k3 e3
 subst hf
 unfold Tryz.f31 at h10
 simp [rgn] at h10
 subst h10
 unfold Tryz.f31 at h11
 simp [rgn] at h11
 subst h11
 unfold Tryz.f31 at h12
 simp [rgn] at h12
 subst h12
 cases hb : (takeS wGroup st).1 with
 | false =>
  rw [hb,take_no hb] at TK
  have TKH:=hidE TK
  have EV:=hidE (show groupS st = ([],st) by unfold groupS;rw [hb,take_no hb];rfl)
  clear TK hb
  go_wp2_with fail
  refine TKH.out.mono ?_
  rintro r w1 ⟨rfl,hk,hp⟩
  have H1:=hidE (qs_call H.out hk hp id)
  clear hk hp TKH H
  go_wp2_with fail
  refine HQ.out _ (.slice none 0 0) _ rfl rfl rfl rfl ?_
  rw [EV.out]
  rw [← hq0]
  exact H1.out
 | true =>
  rw [hb] at TK
  have TKH:=hidE TK
  have EV:=hidE (show groupS st = exprS (mustS wBy (takeS wGroup st).2) by unfold groupS;rw [hb];rfl)
  have MU:=hidE (fun w hp => ts_must gp gm wBy (by decide) (takeS wGroup st).2 w hp)
  have EX:=hidE (fun w hp => ts_expr gp gm (mustS wBy (takeS wGroup st).2) w hp)
  clear TK hb
  go_wp2_with fail
  refine TKH.out.mono ?_
  rintro r w1 ⟨rfl,hk,hp⟩
  have H1:=hidE (qs_call H.out hk hp okS_take)
  have M1:=hidE (MU.out w1 hp)
  clear hk hp TKH H MU
  go_wp2_with fail
  refine M1.out.mono ?_
  rintro r w2 ⟨rfl,hk,hp⟩
  have H1':=hidE (qs_call H1.out hk hp okS_must)
  have E1:=hidE (EX.out w2 hp)
  clear hk hp M1 H1 EX
  go_wp2_with fail
  refine E1.out.mono ?_
  rintro r w3 ⟨v9,rfl,hn,hk,hp⟩
  have H2:=hidE (qs_call H1'.out hk hp okS_expr)
  obtain ⟨a9,n9,c9,rfl⟩:=sl_shape hn.1
  have O2:=hidE (show OptS w3 (gp + 1) (.slice a9 n9 c9) (exprS (mustS wBy (takeS wGroup st).2)).1 (okS (exprS (mustS wBy (takeS wGroup st).2)).2) from ⟨hn.1,fun e => .inr (hn.2 e)⟩)
  have BS:=blk_set H2.out.bq 2 (.slice a9 n9 c9) (by simp)
  have H3:=hidE (qs_store H2.out 2 (.slice a9 n9 c9) (va':=va) (vw':=vw) (vb':=.slice a9 n9 c9) (q':={ q with bys:=(exprS (mustS wBy (takeS wGroup st).2)).1 }) (by simpa using BS) H2.out.ag H2.out.hw O2.out)
  have f1:=H2.out.bq.fz 2
  have c1:=H2.out.bq.c 2 (by simp)
  simp only [List.getElem?_cons_zero,List.getElem?_cons_succ] at c1
  clear hk hp hn E1 H1' H2 BS O2
  go_wp2_with fail
  refine HQ.out _ (.slice a9 n9 c9) _ rfl rfl rfl rfl ?_
  rw [EV.out]
  exact H3.out
theorem qSize (Q : Exit → Act → World → Prop) (X : Code) (C14 : Code) (h14 : rgn 14 (Tryz.f31.body.getD .skip) = some C14) (C15 : Code) (h15 : rgn 15 (Tryz.f31.body.getD .skip) = some C15) (t : List Value) (gp gm gr gq : Nat) (st : St) (va vw vb : Value) (q : Qy) (W w : World) (ht : t.length = 71) (k0 : t[0]? = some (.pointer (some ⟨gp,0,none⟩))) (k2 : t[2]? = some (.pointer (some ⟨gr,0,none⟩))) (k3 : t[3]? = some (.pointer (some ⟨gq,0,none⟩)))
  (h : QS W w gp gm gr gq st va vw vb q)
  (hQ : ∀ (t' : List Value)  (w' : World),t'.length = 71 → t'[0]? = some (.pointer (some ⟨gp,0,none⟩)) → t'[2]? = some (.pointer (some ⟨gr,0,none⟩)) → t'[3]? = some (.pointer (some ⟨gq,0,none⟩)) → QS W w' gp gm gr gq (spanS st).2 va vw vb { q with size:=(spanS st).1,slide:=(spanS st).1 } → Code.wp Tryz.prog X Q { tmps:=t'.toArray,defers:=[] } w') :
  Code.wp Tryz.prog (.seq C14 (.seq C15 X)) Q { tmps:=t.toArray,defers:=[] } w:=by
 have HQ:=hidE hQ
 have H:=hidE h
 clear hQ h
 have EX:=hidE (ts_span gp gm st w H.out.ps)
 obtain ⟨f,hf,hi⟩:=listed t ht
 have e0:=some_at (hi 0 (by decide)) k0
 have e2:=some_at (hi 2 (by decide)) k2
 have e3:=some_at (hi 3 (by decide)) k3
 rw [e0,e2,e3] at hf
 clear hi ht k0 e0 k2 e2 k3 e3
 subst hf
 unfold Tryz.f31 at h14
 simp [rgn] at h14
 subst h14
 unfold Tryz.f31 at h15
 simp [rgn] at h15
 subst h15
 go_wp2_with fail
 refine EX.out.mono ?_
 rintro r w1 ⟨rfl,hk,hp⟩
 have H2:=hidE (qs_call H.out hk hp okS_span)
 have BS:=blk_set H2.out.bq 3 (.int .i64 (spanS st).1) (by simp)
 have H3:=hidE (qs_store H2.out 3 (.int .i64 (spanS st).1) (va':=va) (vw':=vw) (vb':=vb) (q':={ q with size:=(spanS st).1 }) (by simpa using BS) H2.out.ag H2.out.hw H2.out.hb)
 have BS2:=blk_set H3.out.bq 4 (.int .i64 (spanS st).1) (by simp)
 have H4:=hidE (qs_store H3.out 4 (.int .i64 (spanS st).1) (va':=va) (vw':=vw) (vb':=vb) (q':={ q with size:=(spanS st).1,slide:=(spanS st).1 }) (by simpa using BS2) H3.out.ag H3.out.hw H3.out.hb)
 have f1:=H2.out.bq.fz 3
 have c1:=H2.out.bq.c 3 (by simp)
 have f2:=H3.out.bq.fz 4
 have f2':=H2.out.bq.fz 4
 have c2':=H2.out.bq.c 4 (by simp)
 have c2:=H3.out.bq.c 3 (by simp)
 have c3:=H3.out.bq.c 4 (by simp)
 simp only [List.getElem?_cons_zero,List.getElem?_cons_succ] at c1 c2 c3 c2'
 clear hk hp EX H H2 H3 BS BS2
 go_wp2_with fail
 exact HQ.out _  _ rfl rfl rfl rfl H4.out
theorem qOpt16 (Q : Exit → Act → World → Prop) (C16 : Code) (h16 : rgn 16 (Tryz.f31.body.getD .skip) = some C16) (C17 : Code) (h17 : rgn 17 (Tryz.f31.body.getD .skip) = some C17) (t : List Value) (gp gm gr gq : Nat) (st : St) (va vw vb : Value) (q : Qy) (W w : World) (ht : t.length = 71) (k0 : t[0]? = some (.pointer (some ⟨gp,0,none⟩))) (k2 : t[2]? = some (.pointer (some ⟨gr,0,none⟩))) (k3 : t[3]? = some (.pointer (some ⟨gq,0,none⟩)))
  (h : QS W w gp gm gr gq st va vw vb q)
  (hQ : ∀ (t' : List Value)  (w' : World),t'.length = 71 → t'[0]? = some (.pointer (some ⟨gp,0,none⟩)) → t'[2]? = some (.pointer (some ⟨gr,0,none⟩)) → t'[3]? = some (.pointer (some ⟨gq,0,none⟩)) → QS W w' gp gm gr gq (optS wSlide q.slide st).2 va vw vb { q with slide:=(optS wSlide q.slide st).1 } → Q .normal { tmps:=t'.toArray,defers:=[] } w') :
  Code.wp Tryz.prog (.seq C16 (.cond (.tmp 47) C17 .skip)) Q { tmps:=t.toArray,defers:=[] } w:=by
 have HQ:=hidE hQ
 have H:=hidE h
 clear hQ h
 have TK:=ts_take gp gm wSlide (by decide) st w H.out.ps
 obtain ⟨f,hf,hi⟩:=listed t ht
 have e0:=some_at (hi 0 (by decide)) k0
 have e2:=some_at (hi 2 (by decide)) k2
 have e3:=some_at (hi 3 (by decide)) k3
 rw [e0,e2,e3] at hf
 clear hi ht k0 e0 k2 e2 k3 e3
 subst hf
 unfold Tryz.f31 at h16
 simp [rgn] at h16
 subst h16
 unfold Tryz.f31 at h17
 simp [rgn] at h17
 subst h17
 cases hb : (takeS wSlide st).1 with
 | false =>
  rw [hb,take_no hb] at TK
  have TKH:=hidE TK
  have EV:=hidE (show optS wSlide q.slide st = (q.slide,st) by unfold optS;rw [hb,take_no hb];rfl)
  clear TK hb
  go_wp2_with fail
  refine TKH.out.mono ?_
  rintro r w1 ⟨rfl,hk,hp⟩
  have H1:=hidE (qs_call H.out hk hp id)
  clear hk hp TKH H
  go_wp2_with fail
  refine HQ.out _ _ rfl rfl rfl rfl ?_
  rw [EV.out]
  exact H1.out
 | true =>
  rw [hb] at TK
  have TKH:=hidE TK
  have EV:=hidE (show optS wSlide q.slide st = spanS (takeS wSlide st).2 by unfold optS;rw [hb];rfl)
  have EX:=hidE (fun w hp => ts_span gp gm (takeS wSlide st).2 w hp)
  clear TK hb
  go_wp2_with fail
  refine TKH.out.mono ?_
  rintro r w1 ⟨rfl,hk,hp⟩
  have H1:=hidE (qs_call H.out hk hp okS_take)
  have E1:=hidE (EX.out w1 hp)
  clear hk hp TKH H EX
  go_wp2_with fail
  refine E1.out.mono ?_
  rintro r w2 ⟨rfl,hk,hp⟩
  have H2:=hidE (qs_call H1.out hk hp okS_span)
  have BS:=blk_set H2.out.bq 4 (.int .i64 (spanS (takeS wSlide st).2).1) (by simp)
  have H3:=hidE (qs_store H2.out 4 (.int .i64 (spanS (takeS wSlide st).2).1) (va':=va) (vw':=vw) (vb':=vb) (q':={ q with slide:=(spanS (takeS wSlide st).2).1 }) (by simpa using BS) H2.out.ag H2.out.hw H2.out.hb)
  have f1:=H2.out.bq.fz 4
  have c1:=H2.out.bq.c 4 (by simp)
  simp only [List.getElem?_cons_zero,List.getElem?_cons_succ] at c1
  clear hk hp E1 H1 H2 BS
  go_wp2_with fail
  refine HQ.out _ _ rfl rfl rfl rfl ?_
  rw [EV.out]
  exact H3.out
theorem qOpt18 (Q : Exit → Act → World → Prop) (C18 : Code) (h18 : rgn 18 (Tryz.f31.body.getD .skip) = some C18) (C19 : Code) (h19 : rgn 19 (Tryz.f31.body.getD .skip) = some C19) (t : List Value) (gp gm gr gq : Nat) (st : St) (va vw vb : Value) (q : Qy) (W w : World) (ht : t.length = 71) (k0 : t[0]? = some (.pointer (some ⟨gp,0,none⟩))) (k2 : t[2]? = some (.pointer (some ⟨gr,0,none⟩))) (k3 : t[3]? = some (.pointer (some ⟨gq,0,none⟩)))
  (h : QS W w gp gm gr gq st va vw vb q)
  (hQ : ∀ (t' : List Value)  (w' : World),t'.length = 71 → t'[0]? = some (.pointer (some ⟨gp,0,none⟩)) → t'[2]? = some (.pointer (some ⟨gr,0,none⟩)) → t'[3]? = some (.pointer (some ⟨gq,0,none⟩)) → QS W w' gp gm gr gq (optS wDelay q.delay st).2 va vw vb { q with delay:=(optS wDelay q.delay st).1 } → Q .normal { tmps:=t'.toArray,defers:=[] } w') :
  Code.wp Tryz.prog (.seq C18 (.cond (.tmp 52) C19 .skip)) Q { tmps:=t.toArray,defers:=[] } w:=by
 have HQ:=hidE hQ
 have H:=hidE h
 clear hQ h
 have TK:=ts_take gp gm wDelay (by decide) st w H.out.ps
 obtain ⟨f,hf,hi⟩:=listed t ht
 have e0:=some_at (hi 0 (by decide)) k0
 have e2:=some_at (hi 2 (by decide)) k2
 have e3:=some_at (hi 3 (by decide)) k3
 rw [e0,e2,e3] at hf
 clear hi ht k0 e0 k2 e2 k3 e3
 subst hf
 unfold Tryz.f31 at h18
 simp [rgn] at h18
 subst h18
 unfold Tryz.f31 at h19
 simp [rgn] at h19
 subst h19
 cases hb : (takeS wDelay st).1 with
 | false =>
  rw [hb,take_no hb] at TK
  have TKH:=hidE TK
  have EV:=hidE (show optS wDelay q.delay st = (q.delay,st) by unfold optS;rw [hb,take_no hb];rfl)
  clear TK hb
  go_wp2_with fail
  refine TKH.out.mono ?_
  rintro r w1 ⟨rfl,hk,hp⟩
  have H1:=hidE (qs_call H.out hk hp id)
  clear hk hp TKH H
  go_wp2_with fail
  refine HQ.out _ _ rfl rfl rfl rfl ?_
  rw [EV.out]
  exact H1.out
 | true =>
  rw [hb] at TK
  have TKH:=hidE TK
  have EV:=hidE (show optS wDelay q.delay st = spanS (takeS wDelay st).2 by unfold optS;rw [hb];rfl)
  have EX:=hidE (fun w hp => ts_span gp gm (takeS wDelay st).2 w hp)
  clear TK hb
  go_wp2_with fail
  refine TKH.out.mono ?_
  rintro r w1 ⟨rfl,hk,hp⟩
  have H1:=hidE (qs_call H.out hk hp okS_take)
  have E1:=hidE (EX.out w1 hp)
  clear hk hp TKH H EX
  go_wp2_with fail
  refine E1.out.mono ?_
  rintro r w2 ⟨rfl,hk,hp⟩
  have H2:=hidE (qs_call H1.out hk hp okS_span)
  have BS:=blk_set H2.out.bq 5 (.int .i64 (spanS (takeS wDelay st).2).1) (by simp)
  have H3:=hidE (qs_store H2.out 5 (.int .i64 (spanS (takeS wDelay st).2).1) (va':=va) (vw':=vw) (vb':=vb) (q':={ q with delay:=(spanS (takeS wDelay st).2).1 }) (by simpa using BS) H2.out.ag H2.out.hw H2.out.hb)
  have f1:=H2.out.bq.fz 5
  have c1:=H2.out.bq.c 5 (by simp)
  simp only [List.getElem?_cons_zero,List.getElem?_cons_succ] at c1
  clear hk hp E1 H1 H2 BS
  go_wp2_with fail
  refine HQ.out _ _ rfl rfl rfl rfl ?_
  rw [EV.out]
  exact H3.out
theorem qOpt20 (Q : Exit → Act → World → Prop) (C20 : Code) (h20 : rgn 20 (Tryz.f31.body.getD .skip) = some C20) (C21 : Code) (h21 : rgn 21 (Tryz.f31.body.getD .skip) = some C21) (t : List Value) (gp gm gr gq : Nat) (st : St) (va vw vb : Value) (q : Qy) (W w : World) (ht : t.length = 71) (k0 : t[0]? = some (.pointer (some ⟨gp,0,none⟩))) (k2 : t[2]? = some (.pointer (some ⟨gr,0,none⟩))) (k3 : t[3]? = some (.pointer (some ⟨gq,0,none⟩)))
  (h : QS W w gp gm gr gq st va vw vb q)
  (hQ : ∀ (t' : List Value)  (w' : World),t'.length = 71 → t'[0]? = some (.pointer (some ⟨gp,0,none⟩)) → t'[2]? = some (.pointer (some ⟨gr,0,none⟩)) → t'[3]? = some (.pointer (some ⟨gq,0,none⟩)) → QS W w' gp gm gr gq (optS wLate q.late st).2 va vw vb { q with late:=(optS wLate q.late st).1 } → Q .normal { tmps:=t'.toArray,defers:=[] } w') :
  Code.wp Tryz.prog (.seq C20 (.cond (.tmp 57) C21 .skip)) Q { tmps:=t.toArray,defers:=[] } w:=by
 have HQ:=hidE hQ
 have H:=hidE h
 clear hQ h
 have TK:=ts_take gp gm wLate (by decide) st w H.out.ps
 obtain ⟨f,hf,hi⟩:=listed t ht
 have e0:=some_at (hi 0 (by decide)) k0
 have e2:=some_at (hi 2 (by decide)) k2
 have e3:=some_at (hi 3 (by decide)) k3
 rw [e0,e2,e3] at hf
 clear hi ht k0 e0 k2 e2 k3 e3
 subst hf
 unfold Tryz.f31 at h20
 simp [rgn] at h20
 subst h20
 unfold Tryz.f31 at h21
 simp [rgn] at h21
 subst h21
 cases hb : (takeS wLate st).1 with
 | false =>
  rw [hb,take_no hb] at TK
  have TKH:=hidE TK
  have EV:=hidE (show optS wLate q.late st = (q.late,st) by unfold optS;rw [hb,take_no hb];rfl)
  clear TK hb
  go_wp2_with fail
  refine TKH.out.mono ?_
  rintro r w1 ⟨rfl,hk,hp⟩
  have H1:=hidE (qs_call H.out hk hp id)
  clear hk hp TKH H
  go_wp2_with fail
  refine HQ.out _ _ rfl rfl rfl rfl ?_
  rw [EV.out]
  exact H1.out
 | true =>
  rw [hb] at TK
  have TKH:=hidE TK
  have EV:=hidE (show optS wLate q.late st = spanS (takeS wLate st).2 by unfold optS;rw [hb];rfl)
  have EX:=hidE (fun w hp => ts_span gp gm (takeS wLate st).2 w hp)
  clear TK hb
  go_wp2_with fail
  refine TKH.out.mono ?_
  rintro r w1 ⟨rfl,hk,hp⟩
  have H1:=hidE (qs_call H.out hk hp okS_take)
  have E1:=hidE (EX.out w1 hp)
  clear hk hp TKH H EX
  go_wp2_with fail
  refine E1.out.mono ?_
  rintro r w2 ⟨rfl,hk,hp⟩
  have H2:=hidE (qs_call H1.out hk hp okS_span)
  have BS:=blk_set H2.out.bq 6 (.int .i64 (spanS (takeS wLate st).2).1) (by simp)
  have H3:=hidE (qs_store H2.out 6 (.int .i64 (spanS (takeS wLate st).2).1) (va':=va) (vw':=vw) (vb':=vb) (q':={ q with late:=(spanS (takeS wLate st).2).1 }) (by simpa using BS) H2.out.ag H2.out.hw H2.out.hb)
  have f1:=H2.out.bq.fz 6
  have c1:=H2.out.bq.c 6 (by simp)
  simp only [List.getElem?_cons_zero,List.getElem?_cons_succ] at c1
  clear hk hp E1 H1 H2 BS
  go_wp2_with fail
  refine HQ.out _ _ rfl rfl rfl rfl ?_
  rw [EV.out]
  exact H3.out
def RDS (w : World) (g : Nat) (wv : Value) (all : Ws) (st : St) : Prop:=∃ n,match st with
 | .ok ws => RD w g wv all n ws 0 0
 | .error c => 0 < c ∧ RD w g wv all n [] 0 c
structure WsOk (all : Ws) : Prop where
 ne : ∀ x ∈ all,x ≠ ⟨#[]⟩
 sz : ∀ x ∈ all,x.size ≤ 240
theorem rds_below {w w' : World} {g : Nat} {wv : Value} {all : Ws} {st : St} (h : RDS w g wv all st) (hb : Below w.heap.size w w') : RDS w' g wv all st:=by
 obtain ⟨n,h⟩:=h
 cases st with
 | ok ws => exact ⟨n,rd_kept h hb⟩
 | error c => exact ⟨n,h.1,rd_kept h.2 hb⟩
theorem rds_far {w w' : World} {g : Nat} {wv : Value} {all : Ws} {st : St} {bad : Nat → Prop} (h : RDS w g wv all st) (hk : KeptB w w' bad) (hb : ∀ k,bad k → g < k) : RDS w' g wv all st:=by
 obtain ⟨n,h⟩:=h
 cases st with
 | ok ws => exact ⟨n,rd_far h hk hb⟩
 | error c => exact ⟨n,h.1,rd_far h.2 hk hb⟩
theorem rs_take (g : Nat) (wv : Value) (all : Ws) (ok : WsOk all) (word : ByteArray) (hw0 : word ≠ ⟨#[]⟩) (st : St) (w : World) (h : RDS w g wv all st) :
  Calls Tryz.prog 34 #[.pointer (some ⟨g,0,none⟩),.string word] w fun r w' => r = .returned (.bool (takeS word st).1) ∧ KeptB w w' (fun q => q = g) ∧ RDS w' g wv all (takeS word st).2:=by
 obtain ⟨n,h⟩:=h
 cases st with
 | error c =>
  refine (rtake_any g word hw0 wv all ok.ne n [] 0 c w h.2).mono ?_
  rintro r w' ⟨h1,h2,h3⟩
  exact ⟨h1,h2,n,h.1,h3⟩
 | ok ws =>
  have TK:=rtake_any g word hw0 wv all ok.ne n ws 0 0 w h
  unfold RTakeR at TK
  cases ht : tk word ws with
  | none =>
   rw [ht] at TK
   rw [takeS_none ht]
   exact TK.mono fun r w' ⟨h1,h2,h3⟩ => ⟨h1,h2,n,h3⟩
  | some r9 =>
   rw [ht] at TK
   rw [takeS_some ht]
   exact TK.mono fun r w' ⟨h1,h2,h3⟩ => ⟨h1,h2,n + 1,h3⟩
theorem rs_must (g : Nat) (wv : Value) (all : Ws) (ok : WsOk all) (word : ByteArray) (hw0 : word ≠ ⟨#[]⟩) (st : St) (w : World) (h : RDS w g wv all st) :
  Calls Tryz.prog 33 #[.pointer (some ⟨g,0,none⟩),.string word] w fun r w' => r = .returned (.tuple #[]) ∧ KeptB w w' (fun q => q = g) ∧ RDS w' g wv all (mustS word st):=by
 obtain ⟨n,h⟩:=h
 cases st with
 | error c =>
  refine (rmust_any g word hw0 wv all ok.ne n [] 0 c w h.2).mono ?_
  rintro r w' ⟨h1,h2,h3⟩
  have h4 : RD w' g wv all n [] 0 (errN c 4):=h3
  have hc:=h.1
  rw [errN_ne (by omega)] at h4
  exact ⟨h1,h2,n,h.1,h4⟩
 | ok ws =>
  have MU:=rmust_any g word hw0 wv all ok.ne n ws 0 0 w h
  cases ht : tk word ws with
  | none =>
   rw [ht] at MU
   rw [mustS_none ht]
   exact MU.mono fun r w' ⟨h1,h2,h3⟩ => ⟨h1,h2,n,by decide,h3⟩
  | some r9 =>
   rw [ht] at MU
   rw [mustS_some ht]
   exact MU.mono fun r w' ⟨h1,h2,h3⟩ => ⟨h1,h2,n + 1,h3⟩
def failS : St → St
 | .error c => .error c
 | .ok _ => .error 4
theorem rs_fail (g : Nat) (wv : Value) (all : Ws) (st : St) (w : World) (h : RDS w g wv all st) :
  Calls Tryz.prog 35 #[.pointer (some ⟨g,0,none⟩),.int .i64 4] w fun r w' => r = .returned (.tuple #[]) ∧ KeptB w w' (fun q => q = g) ∧ RDS w' g wv all (failS st):=by
 obtain ⟨n,h⟩:=h
 cases st with
 | error c =>
  refine (rfail_any g 4 (by decide) wv all n [] 0 c w h.2).mono ?_
  rintro r w' ⟨h1,h2,h3⟩
  have hc:=h.1
  rw [errN_ne (by omega)] at h3
  exact ⟨h1,h2,n,h.1,h3⟩
 | ok ws =>
  refine (rfail_any g 4 (by decide) wv all n ws 0 0 w h).mono ?_
  rintro r w' ⟨h1,h2,h3⟩
  rw [errN_0] at h3
  exact ⟨h1,h2,n,by decide,h3⟩
theorem rs_expr (g : Nat) (wv : Value) (all : Ws) (ok : WsOk all) (st : St) (w : World) (h : RDS w g wv all st) :
  Calls Tryz.prog 36 #[.pointer (some ⟨g,0,none⟩),.int .i64 0] w fun r w' => ∃ v,r = .returned v ∧ NdsS w' (g + 1) v (exprS st).1 (okS (exprS st).2) ∧ KeptB w w' (fun q => q = g) ∧ RDS w' g wv all (exprS st).2:=by
 obtain ⟨n,h⟩:=h
 cases st with
 | error c =>
  have hc:=h.1
  refine (rlevel_err g 0 wv all n [] 0 c (by omega) w h.2).mono ?_
  rintro r w' ⟨rfl,hb⟩
  exact ⟨_,rfl,⟨rfl,fun e => by cases e⟩,keptB_of_below hb,n,h.1,rd_kept h.2 hb⟩
 | ok ws =>
  refine (rexpr_any g wv all ok.ne ok.sz n ws w h).mono ?_
  rintro r w' ⟨v,rfl,hs,hk,n',hr⟩
  cases hl : lev FU 0 ws 0 with
  | error c =>
   rw [hl] at hr
   have e : exprS (.ok ws) = ([],.error c):=by simp only [exprS,hl]
   rw [e]
   exact ⟨v,rfl,⟨hs,fun e => by cases e⟩,hk,n',hr.1,hr.2⟩
  | ok p =>
   obtain ⟨l,r9⟩:=p
   rw [hl] at hr
   have e : exprS (.ok ws) = (l,.ok r9):=by simp only [exprS,hl]
   rw [e]
   exact ⟨v,rfl,⟨hs,fun _ => hr.1⟩,hk,n',hr.2⟩
theorem rs_span (g : Nat) (wv : Value) (all : Ws) (ok : WsOk all) (st : St) (w : World) (h : RDS w g wv all st) :
  Calls Tryz.prog 37 #[.pointer (some ⟨g,0,none⟩),.int .i64 1000] w fun r w' => r = .returned (.int .i64 (spanS st).1) ∧ KeptB w w' (fun q => q = g) ∧ RDS w' g wv all (spanS st).2:=by
 obtain ⟨n,h⟩:=h
 cases st with
 | error c =>
  have hc:=h.1
  refine (rnumq_any 1000 (by decide) g wv all ok.sz n [] 0 c w h.2).mono ?_
  rintro r w' ⟨hk,rfl,h3⟩
  rw [errN_ne (by omega)] at h3
  exact ⟨rfl,hk,n,h.1,h3⟩
 | ok ws =>
  have NU:=rnumq_any 1000 (by decide) g wv all ok.sz n ws 0 0 w h
  unfold RNumR at NU
  cases ws with
  | nil => exact NU.mono fun r w' ⟨h1,h2,h3⟩ => ⟨h2,h1,n,by decide,h3⟩
  | cons x r9 =>
   cases hq : numQ 1000 x with
   | none =>
    have e : spanS (.ok (x :: r9)) = (0,.error 4):=by simp only [spanS,hq]
    simp only [hq] at NU
    rw [e]
    exact NU.mono fun r w' ⟨h1,h2,h3⟩ => ⟨h2,h1,n,by decide,h3⟩
   | some m =>
    have e : spanS (.ok (x :: r9)) = ((m : Int),.ok r9):=by simp only [spanS,hq]
    simp only [hq] at NU
    rw [e]
    exact NU.mono fun r w' ⟨h1,h2,h3⟩ => ⟨h2,h1,n + 1,h3⟩
def kindS : St → Int × St
 | .error c => (0,.error c)
 | .ok ws => match aggK ws with
  | some (k,r) => (k,.ok r)
  | none => (0,.ok ws)
theorem aggK_ne {ws r : Ws} {k : Int} (h : aggK ws = some (k,r)) : k ≠ 0:=by
 unfold aggK at h
 split at h
 ·cases h;decide
 ·split at h
  ·cases h;decide
  ·split at h
   ·cases h;decide
   ·split at h
    ·cases h;decide
    ·cases h
theorem aggKS_kind (st : St) : aggKS st = if (kindS st).1 = 0 then (0,failS (kindS st).2) else kindS st:=by
 cases st with
 | error c => rfl
 | ok ws =>
  cases h : aggK ws with
  | none =>
   have e : kindS (.ok ws) = (0,.ok ws):=by simp only [kindS,h]
   rw [e,if_pos rfl]
   simp only [aggKS,h,failS]
  | some p =>
   obtain ⟨k,r⟩:=p
   have e : kindS (.ok ws) = (k,.ok r):=by simp only [kindS,h]
   rw [e,if_neg (aggK_ne h)]
   simp only [aggKS,h]
def kindF : Nat → St → Int × St
 | 0,st => if (takeS wCount st).1 = true then (2,(takeS wCount st).2) else if (takeS wSum st).1 = true then (3,(takeS wSum st).2) else if (takeS wMin st).1 = true then (4,(takeS wMin st).2) else if (takeS wMax st).1 = true then (5,(takeS wMax st).2) else (0,st)
 | 1,st => if (takeS wSum st).1 = true then (3,(takeS wSum st).2) else if (takeS wMin st).1 = true then (4,(takeS wMin st).2) else if (takeS wMax st).1 = true then (5,(takeS wMax st).2) else (0,st)
 | 2,st => if (takeS wMin st).1 = true then (4,(takeS wMin st).2) else if (takeS wMax st).1 = true then (5,(takeS wMax st).2) else (0,st)
 | 3,st => if (takeS wMax st).1 = true then (5,(takeS wMax st).2) else (0,st)
 | _,st => (0,st)
theorem kindF_0 (st : St) : kindF 0 st = kindS st:=by
 cases st with
 | error c => rfl
 | ok ws =>
  cases h1 : tk wCount ws with
  | some r => simp [kindF,kindS,aggK,h1,takeS_some h1]
  | none =>
   cases h2 : tk wSum ws with
   | some r => simp [kindF,kindS,aggK,h1,h2,takeS_none h1,takeS_some h2]
   | none =>
    cases h3 : tk wMin ws with
    | some r => simp [kindF,kindS,aggK,h1,h2,h3,takeS_none h1,takeS_none h2,takeS_some h3]
    | none =>
     cases h4 : tk wMax ws with
     | some r => simp [kindF,kindS,aggK,h1,h2,h3,h4,takeS_none h1,takeS_none h2,takeS_none h3,takeS_some h4]
     | none => simp [kindF,kindS,aggK,h1,h2,h3,h4,takeS_none h1,takeS_none h2,takeS_none h3,takeS_none h4]
def bodyS (k : Int) (st : St) : Int × List Nd × St:=if k = 2 ∧ (takeS wStar st).1 = true then (1,[],(takeS wStar st).2) else (k,(exprS st).1,(exprS st).2)
theorem aggS_body (st : St) : aggS st = (⟨(bodyS (aggKS st).1 (mustS wOpen (aggKS st).2)).1,(bodyS (aggKS st).1 (mustS wOpen (aggKS st).2)).2.1⟩,mustS wClose (bodyS (aggKS st).1 (mustS wOpen (aggKS st).2)).2.2):=by
 unfold aggS bodyS
 by_cases h : (aggKS st).1 = 2 ∧ (takeS wStar (mustS wOpen (aggKS st).2)).1 = true
 ·simp only [if_pos h]
 ·simp only [if_neg h]
theorem okS_fail {st : St} (h : okS (failS st) = true) : okS st = true:=by
 cases st with
 | error c => simp [failS,okS] at h
 | ok ws => rfl
theorem listedQ (t : List Value) (h : t.length = 167) : ∃ f : Nat → Value,t = f 0 :: f 1 :: f 2 :: f 3 :: f 4 :: f 5 :: f 6 :: f 7 :: f 8 :: f 9 :: f 10 :: f 11 :: f 12 :: f 13 :: f 14 :: f 15 :: f 16 :: f 17 :: f 18 :: f 19 :: f 20 :: f 21 :: f 22 :: f 23 :: f 24 :: f 25 :: f 26 :: f 27 :: f 28 :: f 29 :: f 30 :: f 31 :: f 32 :: f 33 :: f 34 :: f 35 :: f 36 :: f 37 :: f 38 :: f 39 :: f 40 :: f 41 :: f 42 :: f 43 :: f 44 :: f 45 :: f 46 :: f 47 :: f 48 :: f 49 :: f 50 :: f 51 :: f 52 :: f 53 :: f 54 :: f 55 :: f 56 :: f 57 :: f 58 :: f 59 :: f 60 :: f 61 :: f 62 :: f 63 :: f 64 :: f 65 :: f 66 :: f 67 :: f 68 :: f 69 :: f 70 :: f 71 :: f 72 :: f 73 :: f 74 :: f 75 :: f 76 :: f 77 :: f 78 :: f 79 :: f 80 :: f 81 :: f 82 :: f 83 :: f 84 :: f 85 :: f 86 :: f 87 :: f 88 :: f 89 :: f 90 :: f 91 :: f 92 :: f 93 :: f 94 :: f 95 :: f 96 :: f 97 :: f 98 :: f 99 :: f 100 :: f 101 :: f 102 :: f 103 :: f 104 :: f 105 :: f 106 :: f 107 :: f 108 :: f 109 :: f 110 :: f 111 :: f 112 :: f 113 :: f 114 :: f 115 :: f 116 :: f 117 :: f 118 :: f 119 :: f 120 :: f 121 :: f 122 :: f 123 :: f 124 :: f 125 :: f 126 :: f 127 :: f 128 :: f 129 :: f 130 :: f 131 :: f 132 :: f 133 :: f 134 :: f 135 :: f 136 :: f 137 :: f 138 :: f 139 :: f 140 :: f 141 :: f 142 :: f 143 :: f 144 :: f 145 :: f 146 :: f 147 :: f 148 :: f 149 :: f 150 :: f 151 :: f 152 :: f 153 :: f 154 :: f 155 :: f 156 :: f 157 :: f 158 :: f 159 :: f 160 :: f 161 :: f 162 :: f 163 :: f 164 :: f 165 :: f 166 :: [] ∧ ∀ i,i < 167 → t[i]? = some (f i):=by
 have e1 : t = (List.range 167).map (fun i => t.getD i undef):=by
  apply List.ext_getElem
  ·simp [h]
  ·intro i h1 h2
   simp [List.getD,h1]
 refine ⟨fun i => t.getD i undef,?_,fun i hi => ?_⟩
 ·have e2 : ∀ g : Nat → Value,(List.range 167).map g = g 0 :: g 1 :: g 2 :: g 3 :: g 4 :: g 5 :: g 6 :: g 7 :: g 8 :: g 9 :: g 10 :: g 11 :: g 12 :: g 13 :: g 14 :: g 15 :: g 16 :: g 17 :: g 18 :: g 19 :: g 20 :: g 21 :: g 22 :: g 23 :: g 24 :: g 25 :: g 26 :: g 27 :: g 28 :: g 29 :: g 30 :: g 31 :: g 32 :: g 33 :: g 34 :: g 35 :: g 36 :: g 37 :: g 38 :: g 39 :: g 40 :: g 41 :: g 42 :: g 43 :: g 44 :: g 45 :: g 46 :: g 47 :: g 48 :: g 49 :: g 50 :: g 51 :: g 52 :: g 53 :: g 54 :: g 55 :: g 56 :: g 57 :: g 58 :: g 59 :: g 60 :: g 61 :: g 62 :: g 63 :: g 64 :: g 65 :: g 66 :: g 67 :: g 68 :: g 69 :: g 70 :: g 71 :: g 72 :: g 73 :: g 74 :: g 75 :: g 76 :: g 77 :: g 78 :: g 79 :: g 80 :: g 81 :: g 82 :: g 83 :: g 84 :: g 85 :: g 86 :: g 87 :: g 88 :: g 89 :: g 90 :: g 91 :: g 92 :: g 93 :: g 94 :: g 95 :: g 96 :: g 97 :: g 98 :: g 99 :: g 100 :: g 101 :: g 102 :: g 103 :: g 104 :: g 105 :: g 106 :: g 107 :: g 108 :: g 109 :: g 110 :: g 111 :: g 112 :: g 113 :: g 114 :: g 115 :: g 116 :: g 117 :: g 118 :: g 119 :: g 120 :: g 121 :: g 122 :: g 123 :: g 124 :: g 125 :: g 126 :: g 127 :: g 128 :: g 129 :: g 130 :: g 131 :: g 132 :: g 133 :: g 134 :: g 135 :: g 136 :: g 137 :: g 138 :: g 139 :: g 140 :: g 141 :: g 142 :: g 143 :: g 144 :: g 145 :: g 146 :: g 147 :: g 148 :: g 149 :: g 150 :: g 151 :: g 152 :: g 153 :: g 154 :: g 155 :: g 156 :: g 157 :: g 158 :: g 159 :: g 160 :: g 161 :: g 162 :: g 163 :: g 164 :: g 165 :: g 166 :: []:=fun _ => rfl
  exact e1.trans (e2 _)
 ·simp [List.getD,h,hi]
structure QD (W w : World) (g gr gq : Nat) (wv : Value) (all : Ws) (st : St) (va vw vb : Value) (q : Qy) : Prop where
 kp : Below W.heap.size W w
 ps : RDS w g wv all st
 bq : BlkAt w gq [va,vw,vb,.int .i64 q.size,.int .i64 q.slide,.int .i64 q.delay,.int .i64 q.late]
 br : BlkAt w gr [.slice none 0 0,.slice none 0 0,.slice none 0 0,.int .i64 0,.int .i64 0,.int .i64 0,.int .i64 0]
 tq : TyAt w gq 25
 tr : TyAt w gr 25
 lr : W.heap.size ≤ gr
 lg : gr < g
 lq : g < gq
 ag : AggsR w (g + 1) (g + 1) va q.aggs (okS st)
 hw : OptS w (g + 1) vw q.wh (okS st)
 hb : OptS w (g + 1) vb q.bys (okS st)
theorem below_kept {W w w' : World} {bad : Nat → Prop} (h : Below W.heap.size W w) (hk : KeptB w w' bad) (hb : ∀ k,bad k → W.heap.size ≤ k) : Below W.heap.size W w':=h.trans (keptB_below hk h.size hb)
theorem qd_call {W w w' : World} {g gr gq : Nat} {wv : Value} {all : Ws} {st st' : St} {va vw vb : Value} {q : Qy} (h : QD W w g gr gq wv all st va vw vb q) (hk : KeptB w w' (fun q => q = g)) (hp : RDS w' g wv all st') (ho : okS st' = true → okS st = true) : QD W w' g gr gq wv all st' va vw vb q:=by
 have l1:=h.lr
 have l2:=h.lg
 have l3:=h.lq
 exact ⟨below_kept h.kp hk (fun k e => by omega),hp,blk_kept h.bq hk (by omega),blk_kept h.br hk (by omega),tyAt_kept h.tq hk (by omega),tyAt_kept h.tr hk (by omega),l1,l2,l3,aggs_kept h.ag hk (fun k e => by omega) (fun k e => by omega) ho,optS_kept h.hw hk (fun k e => by omega) ho,optS_kept h.hb hk (fun k e => by omega) ho⟩
theorem qd_store {W w : World} {g gr gq : Nat} {wv : Value} {all : Ws} {st : St} {va vw vb va' vw' vb' : Value} {q q' : Qy} (h : QD W w g gr gq wv all st va vw vb q) (k : Nat) (u : Value)
  (hb : BlkAt (w.setCell ⟨gq,k,none⟩ u) gq [va',vw',vb',.int .i64 q'.size,.int .i64 q'.slide,.int .i64 q'.delay,.int .i64 q'.late]) (h1 : AggsR w (g + 1) (g + 1) va' q'.aggs (okS st)) (h2 : OptS w (g + 1) vw' q'.wh (okS st)) (h3 : OptS w (g + 1) vb' q'.bys (okS st)) :
  QD W (w.setCell ⟨gq,k,none⟩ u) g gr gq wv all st va' vw' vb' q':=by
 have l1:=h.lr
 have l2:=h.lg
 have l3:=h.lq
 have ks : KeptB w (w.setCell ⟨gq,k,none⟩ u) (fun q => q = gq):=keptB_set (keptB_of_below (bad:=fun q => q = gq) (Below.refl w.heap.size w)) rfl k u
 exact ⟨below_kept h.kp ks (fun k e => by omega),rds_far h.ps ks (fun k e => by omega),hb,blk_kept h.br ks (by omega),tyAt_set h.tq _ _ _,tyAt_set h.tr _ _ _,l1,l2,l3,aggs_ty h1 ks h.tq qty_node qty_agg,optS_ty h2 ks h.tq qty_node,optS_ty h3 ks h.tq qty_node⟩
theorem qd_far {W w w' : World} {g gr gq ga : Nat} {wv : Value} {all : Ws} {st : St} {va vw vb : Value} {q : Qy} (h : QD W w g gr gq wv all st va vw vb q) (hk : KeptB w w' (fun q => q = ga)) (ht : TyAt w ga 46) (la : gq < ga) (na : va.ownBlock ≠ some ga) : QD W w' g gr gq wv all st va vw vb q:=by
 have l1:=h.lr
 have l2:=h.lg
 have l3:=h.lq
 refine ⟨below_kept h.kp hk (fun k e => by omega),rds_far h.ps hk (fun k e => by omega),blk_kept h.bq hk (by omega),blk_kept h.br hk (by omega),tyAt_kept h.tq hk (by omega),tyAt_kept h.tr hk (by omega),l1,l2,l3,?_,optS_ty h.hw hk ht agg_tyne,optS_ty h.hb hk ht agg_tyne⟩
 obtain ⟨ps,e1,e2,e3,e4⟩:=h.ag
 exact ⟨ps,e1,own_kept e2 hk (fun k e h9 => by subst h9;exact na e),e3,fun e p hp => optR_ty (e4 e p hp) hk ht agg_tyne⟩
theorem qd_app {W w w5 : World} {g gr gq : Nat} {wv : Value} {all : Ws} {st : St} {va vw vb va' v9 : Value} {q : Qy} (h : QD W w g gr gq wv all st va vw vb q) (a : AgQ) (ps : List (AgQ × Value)) (hm : ps.map Prod.fst = q.aggs) (hown : w.ownsRow (g + 1) 46 2 va q.aggs.length (ps.flatMap cellsAg)) (hsl : ∀ p ∈ ps,isSl p.2 = true) (hop : okS st = true → ∀ p ∈ ps,OptR w (g + 1) p.2 p.1.of)
  (hg : w.grownBy w5 va.ownBlock) (ho : w5.ownsRow (g + 1) 46 2 va' (q.aggs.length + 1) (ps.flatMap cellsAg ++ cellsAg (a,v9))) (h9 : OptS w (g + 1) v9 a.of (okS st)) (hob : va'.ownBlock = va.ownBlock ∨ va'.ownBlock = some w.heap.size) :
  QD W (w5.setCell ⟨gq,0,none⟩ va') g gr gq wv all st va' vw vb { q with aggs:=q.aggs ++ [a] }:=by
 have l1:=h.lr
 have l2:=h.lg
 have l3:=h.lq
 have l4:=h.bq.lt
 have KG : KeptB w w5 (fun k => va.ownBlock = some k):=keptB_grown (keptB_of_below (Below.refl _ _)) hg (fun k e _ => e)
 have NT : ∀ k,va.ownBlock = some k → TyAt w k 46:=fun k e => own_tyAt hown e
 have NW : ∀ k,va.ownBlock = some k → g + 1 ≤ k:=fun k e => (own_at hown k e).1
 have nq:=own_ty hown h.tq qty_agg
 have nr:=own_ty hown h.tr qty_agg
 have ks : KeptB w5 (w5.setCell ⟨gq,0,none⟩ va') (fun k => k = gq):=keptB_set (keptB_of_below (bad:=fun k => k = gq) (Below.refl w5.heap.size w5)) rfl 0 va'
 have tq5:=tyAt_kept h.tq KG nq
 have hw5 : w.heap.size ≤ w5.heap.size:=hg.size
 refine ⟨below_kept (below_kept h.kp KG (fun k e => by have:=NW k e;omega)) ks (fun k e => by omega),rds_far (rds_far h.ps KG (fun k e => by have:=NW k e;omega)) ks (fun k e => by omega),?_,blk_kept (blk_grown h.br hg nr) ks (by omega),tyAt_set tq5 _ _ _,tyAt_set (tyAt_kept h.tr KG nr) _ _ _,l1,l2,l3,?_,optS_ty ⟨h.hw.1,fun e => optR_tyB (h.hw.2 e) KG NT agg_tyne⟩ ks tq5 qty_node,optS_ty ⟨h.hb.1,fun e => optR_tyB (h.hb.2 e) KG NT agg_tyne⟩ ks tq5 qty_node⟩
 ·simpa using blk_set (blk_grown h.bq hg nq) 0 va' (by simp)
 ·refine ⟨ps ++ [(a,v9)],by simp [hm],?_,?_,?_⟩
  ·have e1 : (ps ++ [(a,v9)]).flatMap cellsAg = ps.flatMap cellsAg ++ cellsAg (a,v9):=by simp
   rw [e1]
   have e2 : ({ q with aggs:=q.aggs ++ [a] } : Qy).aggs.length = q.aggs.length + 1:=by simp
   rw [e2]
   refine own_kept ho ks (fun k e h8 => ?_)
   subst h8
   rcases hob with h7 | h7
   ·exact nq (h7 ▸ e)
   ·rw [h7] at e
    have:=Option.some.inj e
    omega
  ·intro p hp
   rcases List.mem_append.1 hp with hp | hp
   ·exact hsl p hp
   ·rw [List.mem_singleton.1 hp];exact h9.1
  ·intro e p hp
   rcases List.mem_append.1 hp with hp | hp
   ·exact optR_ty (optR_tyB (hop e p hp) KG NT agg_tyne) ks tq5 qty_node
   ·rw [List.mem_singleton.1 hp]
    exact optR_ty (optR_tyB (h9.2 e) KG NT agg_tyne) ks tq5 qty_node
structure QA (W w : World) (g gr gq ga : Nat) (wv : Value) (all : Ws) (st : St) (va vw vb : Value) (q : Qy) (k : Int) (vo : Value) (of : List Nd) : Prop where
 qd : QD W w g gr gq wv all st va vw vb q
 ba : BlkAt w ga [.int .i64 k,vo]
 ta : TyAt w ga 46
 la : gq < ga
 na : va.ownBlock ≠ some ga
 ho : OptS w (g + 1) vo of (okS st)
theorem qa_call {W w w' : World} {g gr gq ga : Nat} {wv : Value} {all : Ws} {st st' : St} {va vw vb : Value} {q : Qy} {k : Int} {vo : Value} {of : List Nd} (h : QA W w g gr gq ga wv all st va vw vb q k vo of) (hk : KeptB w w' (fun q => q = g)) (hp : RDS w' g wv all st') (ho : okS st' = true → okS st = true) : QA W w' g gr gq ga wv all st' va vw vb q k vo of:=by
 have l3:=h.qd.lq
 have l4:=h.la
 exact ⟨qd_call h.qd hk hp ho,blk_kept h.ba hk (by omega),tyAt_kept h.ta hk (by omega),h.la,h.na,optS_kept h.ho hk (fun k e => by omega) ho⟩
theorem qa_store {W w : World} {g gr gq ga : Nat} {wv : Value} {all : Ws} {st : St} {va vw vb : Value} {q : Qy} {k k' : Int} {vo vo' : Value} {of of' : List Nd} (h : QA W w g gr gq ga wv all st va vw vb q k vo of) (j : Nat) (u : Value)
  (hb : BlkAt (w.setCell ⟨ga,j,none⟩ u) ga [.int .i64 k',vo']) (h1 : OptS w (g + 1) vo' of' (okS st)) : QA W (w.setCell ⟨ga,j,none⟩ u) g gr gq ga wv all st va vw vb q k' vo' of':=by
 have ks : KeptB w (w.setCell ⟨ga,j,none⟩ u) (fun q => q = ga):=keptB_set (keptB_of_below (bad:=fun q => q = ga) (Below.refl w.heap.size w)) rfl j u
 exact ⟨qd_far h.qd ks h.ta h.la h.na,hb,tyAt_set h.ta _ _ _,h.la,h.na,optS_ty h1 ks h.ta agg_tyne⟩
theorem infoAgq : ∃ i,Tryz.prog.info? 46 = some i ∧ i.zero = some (.agg #[.int .i64 0,.slice none 0 0]) ∧ i.size = 2 ∧ i.bytes = 32:=info_partsA infoAgg
end Go.Proofs.YteaanpdckkmjoaaGreatDoor

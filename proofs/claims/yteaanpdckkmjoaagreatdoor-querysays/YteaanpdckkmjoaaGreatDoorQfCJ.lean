/- Several texts in one, each with its own head. What is proved: what the parts say. Conditions: theirs. -/
import Derived.Test.YteaanpdckkmjoaaGreatDoorPrsKJ
set_option linter.unusedVariables false
set_option linter.unusedSimpArgs false
set_option maxRecDepth 100000
set_option maxHeartbeats 8000000
namespace Go.Proofs.YteaanpdckkmjoaaGreatDoor
open Go.ChangeShapes Go.WideShapes Go.ChangeAt Go.RowKit
theorem fMust6 (Q : Exit → Act → World → Prop) (C6 : Code) (h6 : rgn 6 (Tryz.f13.body.getD .skip) = some C6) (t : List Value) (g gr gq : Nat) (wv : Value) (all : Ws) (okw : WsOk all) (st : St) (va vw vb : Value) (q : Qy) (W w : World) (ht : t.length = 167) (k2 : t[2]? = some (.pointer (some ⟨gr,0,none⟩))) (k6 : t[6]? = some (.pointer (some ⟨g,0,none⟩))) (k7 : t[7]? = some (.pointer (some ⟨gq,0,none⟩)))
  (h : QD W w g gr gq wv all st va vw vb q)
  (hQ : ∀ (t' : List Value)  (w' : World),t'.length = 167 → t'[2]? = some (.pointer (some ⟨gr,0,none⟩)) → t'[6]? = some (.pointer (some ⟨g,0,none⟩)) → t'[7]? = some (.pointer (some ⟨gq,0,none⟩)) → QD W w' g gr gq wv all (mustS wSelect st) va vw vb q → Q .normal { tmps:=t'.toArray,defers:=[] } w') :
  Code.wp Tryz.prog C6 Q { tmps:=t.toArray,defers:=[] } w:=by
 have HQ:=hidE hQ
 have H:=hidE h
 have OKW:=hidE okw
 clear hQ h okw
 have MU:=hidE (rs_must g wv all OKW.out wSelect (by decide) st w H.out.ps)
 obtain ⟨f,hf,hi⟩:=listedQ t ht
 have e2:=some_at (hi 2 (by decide)) k2
 have e6:=some_at (hi 6 (by decide)) k6
 have e7:=some_at (hi 7 (by decide)) k7
 rw [e2,e6,e7] at hf
 clear hi ht k2 e2 k6 e6 k7 e7
 subst hf
 unfold Tryz.f13 at h6
 simp [rgn] at h6
 subst h6
 go_wp2_with fail
 refine MU.out.mono ?_
 rintro r w1 ⟨rfl,hk,hp⟩
 have H1:=hidE (qd_call H.out hk hp okS_must)
 clear hk hp MU H
 go_wp2_with fail
 exact HQ.out _  _ rfl rfl rfl rfl H1.out
theorem fMust30 (Q : Exit → Act → World → Prop) (C30 : Code) (h30 : rgn 30 (Tryz.f13.body.getD .skip) = some C30) (t : List Value) (g gr gq : Nat) (wv : Value) (all : Ws) (okw : WsOk all) (st : St) (va vw vb : Value) (q : Qy) (W w : World) (ht : t.length = 167) (k2 : t[2]? = some (.pointer (some ⟨gr,0,none⟩))) (k6 : t[6]? = some (.pointer (some ⟨g,0,none⟩))) (k7 : t[7]? = some (.pointer (some ⟨gq,0,none⟩)))
  (h : QD W w g gr gq wv all st va vw vb q)
  (hQ : ∀ (t' : List Value)  (w' : World),t'.length = 167 → t'[2]? = some (.pointer (some ⟨gr,0,none⟩)) → t'[6]? = some (.pointer (some ⟨g,0,none⟩)) → t'[7]? = some (.pointer (some ⟨gq,0,none⟩)) → QD W w' g gr gq wv all (mustS wFrom st) va vw vb q → Q .normal { tmps:=t'.toArray,defers:=[] } w') :
  Code.wp Tryz.prog C30 Q { tmps:=t.toArray,defers:=[] } w:=by
 have HQ:=hidE hQ
 have H:=hidE h
 have OKW:=hidE okw
 clear hQ h okw
 have MU:=hidE (rs_must g wv all OKW.out wFrom (by decide) st w H.out.ps)
 obtain ⟨f,hf,hi⟩:=listedQ t ht
 have e2:=some_at (hi 2 (by decide)) k2
 have e6:=some_at (hi 6 (by decide)) k6
 have e7:=some_at (hi 7 (by decide)) k7
 rw [e2,e6,e7] at hf
 clear hi ht k2 e2 k6 e6 k7 e7
 subst hf
 unfold Tryz.f13 at h30
 simp [rgn] at h30
 subst h30
 go_wp2_with fail
 refine MU.out.mono ?_
 rintro r w1 ⟨rfl,hk,hp⟩
 have H1:=hidE (qd_call H.out hk hp okS_must)
 clear hk hp MU H
 go_wp2_with fail
 exact HQ.out _  _ rfl rfl rfl rfl H1.out
theorem fMust31 (Q : Exit → Act → World → Prop) (C31 : Code) (h31 : rgn 31 (Tryz.f13.body.getD .skip) = some C31) (t : List Value) (g gr gq : Nat) (wv : Value) (all : Ws) (okw : WsOk all) (st : St) (va vw vb : Value) (q : Qy) (W w : World) (ht : t.length = 167) (k2 : t[2]? = some (.pointer (some ⟨gr,0,none⟩))) (k6 : t[6]? = some (.pointer (some ⟨g,0,none⟩))) (k7 : t[7]? = some (.pointer (some ⟨gq,0,none⟩)))
  (h : QD W w g gr gq wv all st va vw vb q)
  (hQ : ∀ (t' : List Value)  (w' : World),t'.length = 167 → t'[2]? = some (.pointer (some ⟨gr,0,none⟩)) → t'[6]? = some (.pointer (some ⟨g,0,none⟩)) → t'[7]? = some (.pointer (some ⟨gq,0,none⟩)) → QD W w' g gr gq wv all (mustS wEvents st) va vw vb q → Q .normal { tmps:=t'.toArray,defers:=[] } w') :
  Code.wp Tryz.prog C31 Q { tmps:=t.toArray,defers:=[] } w:=by
 have HQ:=hidE hQ
 have H:=hidE h
 have OKW:=hidE okw
 clear hQ h okw
 have MU:=hidE (rs_must g wv all OKW.out wEvents (by decide) st w H.out.ps)
 obtain ⟨f,hf,hi⟩:=listedQ t ht
 have e2:=some_at (hi 2 (by decide)) k2
 have e6:=some_at (hi 6 (by decide)) k6
 have e7:=some_at (hi 7 (by decide)) k7
 rw [e2,e6,e7] at hf
 clear hi ht k2 e2 k6 e6 k7 e7
 subst hf
 unfold Tryz.f13 at h31
 simp [rgn] at h31
 subst h31
 go_wp2_with fail
 refine MU.out.mono ?_
 rintro r w1 ⟨rfl,hk,hp⟩
 have H1:=hidE (qd_call H.out hk hp okS_must)
 clear hk hp MU H
 go_wp2_with fail
 exact HQ.out _  _ rfl rfl rfl rfl H1.out
theorem fMust39 (Q : Exit → Act → World → Prop) (C39 : Code) (h39 : rgn 39 (Tryz.f13.body.getD .skip) = some C39) (t : List Value) (g gr gq : Nat) (wv : Value) (all : Ws) (okw : WsOk all) (st : St) (va vw vb : Value) (q : Qy) (W w : World) (ht : t.length = 167) (k2 : t[2]? = some (.pointer (some ⟨gr,0,none⟩))) (k6 : t[6]? = some (.pointer (some ⟨g,0,none⟩))) (k7 : t[7]? = some (.pointer (some ⟨gq,0,none⟩)))
  (h : QD W w g gr gq wv all st va vw vb q)
  (hQ : ∀ (t' : List Value)  (w' : World),t'.length = 167 → t'[2]? = some (.pointer (some ⟨gr,0,none⟩)) → t'[6]? = some (.pointer (some ⟨g,0,none⟩)) → t'[7]? = some (.pointer (some ⟨gq,0,none⟩)) → QD W w' g gr gq wv all (mustS wWindow st) va vw vb q → Q .normal { tmps:=t'.toArray,defers:=[] } w') :
  Code.wp Tryz.prog C39 Q { tmps:=t.toArray,defers:=[] } w:=by
 have HQ:=hidE hQ
 have H:=hidE h
 have OKW:=hidE okw
 clear hQ h okw
 have MU:=hidE (rs_must g wv all OKW.out wWindow (by decide) st w H.out.ps)
 obtain ⟨f,hf,hi⟩:=listedQ t ht
 have e2:=some_at (hi 2 (by decide)) k2
 have e6:=some_at (hi 6 (by decide)) k6
 have e7:=some_at (hi 7 (by decide)) k7
 rw [e2,e6,e7] at hf
 clear hi ht k2 e2 k6 e6 k7 e7
 subst hf
 unfold Tryz.f13 at h39
 simp [rgn] at h39
 subst h39
 go_wp2_with fail
 refine MU.out.mono ?_
 rintro r w1 ⟨rfl,hk,hp⟩
 have H1:=hidE (qd_call H.out hk hp okS_must)
 clear hk hp MU H
 go_wp2_with fail
 exact HQ.out _  _ rfl rfl rfl rfl H1.out
theorem fOpt42 (Q : Exit → Act → World → Prop) (X : Code) (C42 : Code) (h42 : rgn 42 (Tryz.f13.body.getD .skip) = some C42) (C43 : Code) (h43 : rgn 43 (Tryz.f13.body.getD .skip) = some C43) (C44 : Code) (h44 : rgn 44 (Tryz.f13.body.getD .skip) = some C44) (t : List Value) (g gr gq : Nat) (wv : Value) (all : Ws) (okw : WsOk all) (st : St) (va vw vb : Value) (q : Qy) (W w : World) (ht : t.length = 167) (k2 : t[2]? = some (.pointer (some ⟨gr,0,none⟩))) (k6 : t[6]? = some (.pointer (some ⟨g,0,none⟩))) (k7 : t[7]? = some (.pointer (some ⟨gq,0,none⟩)))
  (h : QD W w g gr gq wv all st va vw vb q)
  (hQ : ∀ (t' : List Value)  (w' : World),t'.length = 167 → t'[2]? = some (.pointer (some ⟨gr,0,none⟩)) → t'[6]? = some (.pointer (some ⟨g,0,none⟩)) → t'[7]? = some (.pointer (some ⟨gq,0,none⟩)) → QD W w' g gr gq wv all (optS wSlide q.slide st).2 va vw vb { q with slide:=(optS wSlide q.slide st).1 } → Code.wp Tryz.prog X Q { tmps:=t'.toArray,defers:=[] } w') :
  Code.wp Tryz.prog (.seq C42 (.seq (.seq C43 (.cond (.tmp 110) C44 .skip)) X)) Q { tmps:=t.toArray,defers:=[] } w:=by
 have HQ:=hidE hQ
 have H:=hidE h
 have OKW:=hidE okw
 clear hQ h okw
 have TK:=rs_take g wv all OKW.out wSlide (by decide) st w H.out.ps
 obtain ⟨f,hf,hi⟩:=listedQ t ht
 have e2:=some_at (hi 2 (by decide)) k2
 have e6:=some_at (hi 6 (by decide)) k6
 have e7:=some_at (hi 7 (by decide)) k7
 rw [e2,e6,e7] at hf
 clear hi ht k2 e2 k6 e6 k7 e7
 subst hf
 unfold Tryz.f13 at h42
 simp [rgn] at h42
 subst h42
 unfold Tryz.f13 at h43
 simp [rgn] at h43
 subst h43
 unfold Tryz.f13 at h44
 simp [rgn] at h44
 subst h44
 cases hb : (takeS wSlide st).1 with
 | false =>
  rw [hb,take_no hb] at TK
  have TKH:=hidE TK
  have EV:=hidE (show optS wSlide q.slide st = (q.slide,st) by unfold optS;rw [hb,take_no hb];rfl)
  clear TK hb
  go_wp2_with fail
  refine TKH.out.mono ?_
  rintro r w1 ⟨rfl,hk,hp⟩
  have H1:=hidE (qd_call H.out hk hp id)
  clear hk hp TKH H
  go_wp2_with fail
  refine HQ.out _ _ rfl rfl rfl rfl ?_
  rw [EV.out]
  exact H1.out
 | true =>
  rw [hb] at TK
  have TKH:=hidE TK
  have EV:=hidE (show optS wSlide q.slide st = spanS (takeS wSlide st).2 by unfold optS;rw [hb];rfl)
  have EX:=hidE (fun w hp => rs_span g wv all OKW.out (takeS wSlide st).2 w hp)
  clear TK hb
  go_wp2_with fail
  refine TKH.out.mono ?_
  rintro r w1 ⟨rfl,hk,hp⟩
  have H1:=hidE (qd_call H.out hk hp okS_take)
  have E1:=hidE (EX.out w1 hp)
  clear hk hp TKH H EX
  go_wp2_with fail
  refine E1.out.mono ?_
  rintro r w2 ⟨rfl,hk,hp⟩
  have H2:=hidE (qd_call H1.out hk hp okS_span)
  have BS:=blk_set H2.out.bq 4 (.int .i64 (spanS (takeS wSlide st).2).1) (by simp)
  have H3:=hidE (qd_store H2.out 4 (.int .i64 (spanS (takeS wSlide st).2).1) (va':=va) (vw':=vw) (vb':=vb) (q':={ q with slide:=(spanS (takeS wSlide st).2).1 }) (by simpa using BS) H2.out.ag H2.out.hw H2.out.hb)
  have f1:=H2.out.bq.fz 4
  have c1:=H2.out.bq.c 4 (by simp)
  simp only [List.getElem?_cons_zero,List.getElem?_cons_succ] at c1
  clear hk hp E1 H1 H2 BS
  go_wp2_with fail
  refine HQ.out _ _ rfl rfl rfl rfl ?_
  rw [EV.out]
  exact H3.out
theorem fOpt45 (Q : Exit → Act → World → Prop) (X : Code) (C45 : Code) (h45 : rgn 45 (Tryz.f13.body.getD .skip) = some C45) (C46 : Code) (h46 : rgn 46 (Tryz.f13.body.getD .skip) = some C46) (C47 : Code) (h47 : rgn 47 (Tryz.f13.body.getD .skip) = some C47) (t : List Value) (g gr gq : Nat) (wv : Value) (all : Ws) (okw : WsOk all) (st : St) (va vw vb : Value) (q : Qy) (W w : World) (ht : t.length = 167) (k2 : t[2]? = some (.pointer (some ⟨gr,0,none⟩))) (k6 : t[6]? = some (.pointer (some ⟨g,0,none⟩))) (k7 : t[7]? = some (.pointer (some ⟨gq,0,none⟩)))
  (h : QD W w g gr gq wv all st va vw vb q)
  (hQ : ∀ (t' : List Value)  (w' : World),t'.length = 167 → t'[2]? = some (.pointer (some ⟨gr,0,none⟩)) → t'[6]? = some (.pointer (some ⟨g,0,none⟩)) → t'[7]? = some (.pointer (some ⟨gq,0,none⟩)) → QD W w' g gr gq wv all (optS wDelay q.delay st).2 va vw vb { q with delay:=(optS wDelay q.delay st).1 } → Code.wp Tryz.prog X Q { tmps:=t'.toArray,defers:=[] } w') :
  Code.wp Tryz.prog (.seq C45 (.seq (.seq C46 (.cond (.tmp 116) C47 .skip)) X)) Q { tmps:=t.toArray,defers:=[] } w:=by
 have HQ:=hidE hQ
 have H:=hidE h
 have OKW:=hidE okw
 clear hQ h okw
 have TK:=rs_take g wv all OKW.out wDelay (by decide) st w H.out.ps
 obtain ⟨f,hf,hi⟩:=listedQ t ht
 have e2:=some_at (hi 2 (by decide)) k2
 have e6:=some_at (hi 6 (by decide)) k6
 have e7:=some_at (hi 7 (by decide)) k7
 rw [e2,e6,e7] at hf
 clear hi ht k2 e2 k6 e6 k7 e7
 subst hf
 unfold Tryz.f13 at h45
 simp [rgn] at h45
 subst h45
 unfold Tryz.f13 at h46
 simp [rgn] at h46
 subst h46
 unfold Tryz.f13 at h47
 simp [rgn] at h47
 subst h47
 cases hb : (takeS wDelay st).1 with
 | false =>
  rw [hb,take_no hb] at TK
  have TKH:=hidE TK
  have EV:=hidE (show optS wDelay q.delay st = (q.delay,st) by unfold optS;rw [hb,take_no hb];rfl)
  clear TK hb
  go_wp2_with fail
  refine TKH.out.mono ?_
  rintro r w1 ⟨rfl,hk,hp⟩
  have H1:=hidE (qd_call H.out hk hp id)
  clear hk hp TKH H
  go_wp2_with fail
  refine HQ.out _ _ rfl rfl rfl rfl ?_
  rw [EV.out]
  exact H1.out
 | true =>
  rw [hb] at TK
  have TKH:=hidE TK
  have EV:=hidE (show optS wDelay q.delay st = spanS (takeS wDelay st).2 by unfold optS;rw [hb];rfl)
  have EX:=hidE (fun w hp => rs_span g wv all OKW.out (takeS wDelay st).2 w hp)
  clear TK hb
  go_wp2_with fail
  refine TKH.out.mono ?_
  rintro r w1 ⟨rfl,hk,hp⟩
  have H1:=hidE (qd_call H.out hk hp okS_take)
  have E1:=hidE (EX.out w1 hp)
  clear hk hp TKH H EX
  go_wp2_with fail
  refine E1.out.mono ?_
  rintro r w2 ⟨rfl,hk,hp⟩
  have H2:=hidE (qd_call H1.out hk hp okS_span)
  have BS:=blk_set H2.out.bq 5 (.int .i64 (spanS (takeS wDelay st).2).1) (by simp)
  have H3:=hidE (qd_store H2.out 5 (.int .i64 (spanS (takeS wDelay st).2).1) (va':=va) (vw':=vw) (vb':=vb) (q':={ q with delay:=(spanS (takeS wDelay st).2).1 }) (by simpa using BS) H2.out.ag H2.out.hw H2.out.hb)
  have f1:=H2.out.bq.fz 5
  have c1:=H2.out.bq.c 5 (by simp)
  simp only [List.getElem?_cons_zero,List.getElem?_cons_succ] at c1
  clear hk hp E1 H1 H2 BS
  go_wp2_with fail
  refine HQ.out _ _ rfl rfl rfl rfl ?_
  rw [EV.out]
  exact H3.out
theorem fOpt48 (Q : Exit → Act → World → Prop) (X : Code) (C48 : Code) (h48 : rgn 48 (Tryz.f13.body.getD .skip) = some C48) (C49 : Code) (h49 : rgn 49 (Tryz.f13.body.getD .skip) = some C49) (C50 : Code) (h50 : rgn 50 (Tryz.f13.body.getD .skip) = some C50) (t : List Value) (g gr gq : Nat) (wv : Value) (all : Ws) (okw : WsOk all) (st : St) (va vw vb : Value) (q : Qy) (W w : World) (ht : t.length = 167) (k2 : t[2]? = some (.pointer (some ⟨gr,0,none⟩))) (k6 : t[6]? = some (.pointer (some ⟨g,0,none⟩))) (k7 : t[7]? = some (.pointer (some ⟨gq,0,none⟩)))
  (h : QD W w g gr gq wv all st va vw vb q)
  (hQ : ∀ (t' : List Value)  (w' : World),t'.length = 167 → t'[2]? = some (.pointer (some ⟨gr,0,none⟩)) → t'[6]? = some (.pointer (some ⟨g,0,none⟩)) → t'[7]? = some (.pointer (some ⟨gq,0,none⟩)) → QD W w' g gr gq wv all (optS wLate q.late st).2 va vw vb { q with late:=(optS wLate q.late st).1 } → Code.wp Tryz.prog X Q { tmps:=t'.toArray,defers:=[] } w') :
  Code.wp Tryz.prog (.seq C48 (.seq (.seq C49 (.cond (.tmp 122) C50 .skip)) X)) Q { tmps:=t.toArray,defers:=[] } w:=by
 have HQ:=hidE hQ
 have H:=hidE h
 have OKW:=hidE okw
 clear hQ h okw
 have TK:=rs_take g wv all OKW.out wLate (by decide) st w H.out.ps
 obtain ⟨f,hf,hi⟩:=listedQ t ht
 have e2:=some_at (hi 2 (by decide)) k2
 have e6:=some_at (hi 6 (by decide)) k6
 have e7:=some_at (hi 7 (by decide)) k7
 rw [e2,e6,e7] at hf
 clear hi ht k2 e2 k6 e6 k7 e7
 subst hf
 unfold Tryz.f13 at h48
 simp [rgn] at h48
 subst h48
 unfold Tryz.f13 at h49
 simp [rgn] at h49
 subst h49
 unfold Tryz.f13 at h50
 simp [rgn] at h50
 subst h50
 cases hb : (takeS wLate st).1 with
 | false =>
  rw [hb,take_no hb] at TK
  have TKH:=hidE TK
  have EV:=hidE (show optS wLate q.late st = (q.late,st) by unfold optS;rw [hb,take_no hb];rfl)
  clear TK hb
  go_wp2_with fail
  refine TKH.out.mono ?_
  rintro r w1 ⟨rfl,hk,hp⟩
  have H1:=hidE (qd_call H.out hk hp id)
  clear hk hp TKH H
  go_wp2_with fail
  refine HQ.out _ _ rfl rfl rfl rfl ?_
  rw [EV.out]
  exact H1.out
 | true =>
  rw [hb] at TK
  have TKH:=hidE TK
  have EV:=hidE (show optS wLate q.late st = spanS (takeS wLate st).2 by unfold optS;rw [hb];rfl)
  have EX:=hidE (fun w hp => rs_span g wv all OKW.out (takeS wLate st).2 w hp)
  clear TK hb
  go_wp2_with fail
  refine TKH.out.mono ?_
  rintro r w1 ⟨rfl,hk,hp⟩
  have H1:=hidE (qd_call H.out hk hp okS_take)
  have E1:=hidE (EX.out w1 hp)
  clear hk hp TKH H EX
  go_wp2_with fail
  refine E1.out.mono ?_
  rintro r w2 ⟨rfl,hk,hp⟩
  have H2:=hidE (qd_call H1.out hk hp okS_span)
  have BS:=blk_set H2.out.bq 6 (.int .i64 (spanS (takeS wLate st).2).1) (by simp)
  have H3:=hidE (qd_store H2.out 6 (.int .i64 (spanS (takeS wLate st).2).1) (va':=va) (vw':=vw) (vb':=vb) (q':={ q with late:=(spanS (takeS wLate st).2).1 }) (by simpa using BS) H2.out.ag H2.out.hw H2.out.hb)
  have f1:=H2.out.bq.fz 6
  have c1:=H2.out.bq.c 6 (by simp)
  simp only [List.getElem?_cons_zero,List.getElem?_cons_succ] at c1
  clear hk hp E1 H1 H2 BS
  go_wp2_with fail
  refine HQ.out _ _ rfl rfl rfl rfl ?_
  rw [EV.out]
  exact H3.out
theorem fWhere (Q : Exit → Act → World → Prop) (X : Code) (C32 : Code) (h32 : rgn 32 (Tryz.f13.body.getD .skip) = some C32) (C33 : Code) (h33 : rgn 33 (Tryz.f13.body.getD .skip) = some C33) (C34 : Code) (h34 : rgn 34 (Tryz.f13.body.getD .skip) = some C34) (t : List Value) (g gr gq : Nat) (wv : Value) (all : Ws) (okw : WsOk all) (st : St) (va vw vb : Value) (q : Qy) (W w : World) (hw0 : vw = .slice none 0 0) (hq0 : q.wh = []) (ht : t.length = 167) (k2 : t[2]? = some (.pointer (some ⟨gr,0,none⟩))) (k6 : t[6]? = some (.pointer (some ⟨g,0,none⟩))) (k7 : t[7]? = some (.pointer (some ⟨gq,0,none⟩)))
  (h : QD W w g gr gq wv all st va vw vb q)
  (hQ : ∀ (t' : List Value) (vw' : Value) (w' : World),t'.length = 167 → t'[2]? = some (.pointer (some ⟨gr,0,none⟩)) → t'[6]? = some (.pointer (some ⟨g,0,none⟩)) → t'[7]? = some (.pointer (some ⟨gq,0,none⟩)) → QD W w' g gr gq wv all (whereS st).2 va vw' vb { q with wh:=(whereS st).1 } → Code.wp Tryz.prog X Q { tmps:=t'.toArray,defers:=[] } w') :
  Code.wp Tryz.prog (.seq C32 (.seq (.seq C33 (.cond (.tmp 88) C34 .skip)) X)) Q { tmps:=t.toArray,defers:=[] } w:=by
 have HQ:=hidE hQ
 have H:=hidE h
 have OKW:=hidE okw
 clear hQ h okw
 have TK:=rs_take g wv all OKW.out wWhere (by decide) st w H.out.ps
 subst hw0
 obtain ⟨f,hf,hi⟩:=listedQ t ht
 have e2:=some_at (hi 2 (by decide)) k2
 have e6:=some_at (hi 6 (by decide)) k6
 have e7:=some_at (hi 7 (by decide)) k7
 rw [e2,e6,e7] at hf
 clear hi ht k2 e2 k6 e6 k7 e7
 subst hf
 unfold Tryz.f13 at h32
 simp [rgn] at h32
 subst h32
 unfold Tryz.f13 at h33
 simp [rgn] at h33
 subst h33
 unfold Tryz.f13 at h34
 simp [rgn] at h34
 subst h34
 cases hb : (takeS wWhere st).1 with
 | false =>
  rw [hb,take_no hb] at TK
  have TKH:=hidE TK
  have EV:=hidE (show whereS st = ([],st) by unfold whereS;rw [hb,take_no hb];rfl)
  clear TK hb
  go_wp2_with fail
  refine TKH.out.mono ?_
  rintro r w1 ⟨rfl,hk,hp⟩
  have H1:=hidE (qd_call H.out hk hp id)
  clear hk hp TKH H
  go_wp2_with fail
  refine HQ.out _ (.slice none 0 0) _ rfl rfl rfl rfl ?_
  rw [EV.out]
  rw [← hq0]
  exact H1.out
 | true =>
  rw [hb] at TK
  have TKH:=hidE TK
  have EV:=hidE (show whereS st = exprS (takeS wWhere st).2 by unfold whereS;rw [hb];rfl)
  have EX:=hidE (fun w hp => rs_expr g wv all OKW.out (takeS wWhere st).2 w hp)
  clear TK hb
  go_wp2_with fail
  refine TKH.out.mono ?_
  rintro r w1 ⟨rfl,hk,hp⟩
  have H1:=hidE (qd_call H.out hk hp okS_take)
  have E1:=hidE (EX.out w1 hp)
  clear hk hp TKH H EX
  go_wp2_with fail
  refine E1.out.mono ?_
  rintro r w2 ⟨v9,rfl,hn,hk,hp⟩
  have H2:=hidE (qd_call H1.out hk hp okS_expr)
  obtain ⟨a9,n9,c9,rfl⟩:=sl_shape hn.1
  have O2:=hidE (show OptS w2 (g + 1) (.slice a9 n9 c9) (exprS (takeS wWhere st).2).1 (okS (exprS (takeS wWhere st).2).2) from ⟨hn.1,fun e => .inr (hn.2 e)⟩)
  have BS:=blk_set H2.out.bq 1 (.slice a9 n9 c9) (by simp)
  have H3:=hidE (qd_store H2.out 1 (.slice a9 n9 c9) (va':=va) (vw':=.slice a9 n9 c9) (vb':=vb) (q':={ q with wh:=(exprS (takeS wWhere st).2).1 }) (by simpa using BS) H2.out.ag O2.out H2.out.hb)
  have f1:=H2.out.bq.fz 1
  have c1:=H2.out.bq.c 1 (by simp)
  simp only [List.getElem?_cons_zero,List.getElem?_cons_succ] at c1
  clear hk hp hn E1 H1 H2 BS O2
  go_wp2_with fail
  refine HQ.out _ (.slice a9 n9 c9) _ rfl rfl rfl rfl ?_
  rw [EV.out]
  exact H3.out
theorem fGroup (Q : Exit → Act → World → Prop) (X : Code) (C35 : Code) (h35 : rgn 35 (Tryz.f13.body.getD .skip) = some C35) (C36 : Code) (h36 : rgn 36 (Tryz.f13.body.getD .skip) = some C36) (C37 : Code) (h37 : rgn 37 (Tryz.f13.body.getD .skip) = some C37) (C38 : Code) (h38 : rgn 38 (Tryz.f13.body.getD .skip) = some C38) (t : List Value) (g gr gq : Nat) (wv : Value) (all : Ws) (okw : WsOk all) (st : St) (va vw vb : Value) (q : Qy) (W w : World) (hw0 : vb = .slice none 0 0) (hq0 : q.bys = []) (ht : t.length = 167) (k2 : t[2]? = some (.pointer (some ⟨gr,0,none⟩))) (k6 : t[6]? = some (.pointer (some ⟨g,0,none⟩))) (k7 : t[7]? = some (.pointer (some ⟨gq,0,none⟩)))
  (h : QD W w g gr gq wv all st va vw vb q)
  (hQ : ∀ (t' : List Value) (vb' : Value) (w' : World),t'.length = 167 → t'[2]? = some (.pointer (some ⟨gr,0,none⟩)) → t'[6]? = some (.pointer (some ⟨g,0,none⟩)) → t'[7]? = some (.pointer (some ⟨gq,0,none⟩)) → QD W w' g gr gq wv all (groupS st).2 va vw vb' { q with bys:=(groupS st).1 } → Code.wp Tryz.prog X Q { tmps:=t'.toArray,defers:=[] } w') :
  Code.wp Tryz.prog (.seq C35 (.seq (.seq C36 (.cond (.tmp 94) (.seq C37 C38) .skip)) X)) Q { tmps:=t.toArray,defers:=[] } w:=by
 have HQ:=hidE hQ
 have H:=hidE h
 have OKW:=hidE okw
 clear hQ h okw
 have TK:=rs_take g wv all OKW.out wGroup (by decide) st w H.out.ps
 subst hw0
 obtain ⟨f,hf,hi⟩:=listedQ t ht
 have e2:=some_at (hi 2 (by decide)) k2
 have e6:=some_at (hi 6 (by decide)) k6
 have e7:=some_at (hi 7 (by decide)) k7
 rw [e2,e6,e7] at hf
 clear hi ht k2 e2 k6 e6 k7 e7
 subst hf
 unfold Tryz.f13 at h35
 simp [rgn] at h35
 subst h35
 unfold Tryz.f13 at h36
 simp [rgn] at h36
 subst h36
 unfold Tryz.f13 at h37
 simp [rgn] at h37
 subst h37
 unfold Tryz.f13 at h38
 simp [rgn] at h38
 subst h38
 cases hb : (takeS wGroup st).1 with
 | false =>
  rw [hb,take_no hb] at TK
  have TKH:=hidE TK
  have EV:=hidE (show groupS st = ([],st) by unfold groupS;rw [hb,take_no hb];rfl)
  clear TK hb
  go_wp2_with fail
  refine TKH.out.mono ?_
  rintro r w1 ⟨rfl,hk,hp⟩
  have H1:=hidE (qd_call H.out hk hp id)
  clear hk hp TKH H
  go_wp2_with fail
  refine HQ.out _ (.slice none 0 0) _ rfl rfl rfl rfl ?_
  rw [EV.out]
  rw [← hq0]
  exact H1.out
 | true =>
  rw [hb] at TK
  have TKH:=hidE TK
  have EV:=hidE (show groupS st = exprS (mustS wBy (takeS wGroup st).2) by unfold groupS;rw [hb];rfl)
  have MU:=hidE (fun w hp => rs_must g wv all OKW.out wBy (by decide) (takeS wGroup st).2 w hp)
  have EX:=hidE (fun w hp => rs_expr g wv all OKW.out (mustS wBy (takeS wGroup st).2) w hp)
  clear TK hb
  go_wp2_with fail
  refine TKH.out.mono ?_
  rintro r w1 ⟨rfl,hk,hp⟩
  have H1:=hidE (qd_call H.out hk hp okS_take)
  have M1:=hidE (MU.out w1 hp)
  clear hk hp TKH H MU
  go_wp2_with fail
  refine M1.out.mono ?_
  rintro r w2 ⟨rfl,hk,hp⟩
  have H1':=hidE (qd_call H1.out hk hp okS_must)
  have E1:=hidE (EX.out w2 hp)
  clear hk hp M1 H1 EX
  go_wp2_with fail
  refine E1.out.mono ?_
  rintro r w3 ⟨v9,rfl,hn,hk,hp⟩
  have H2:=hidE (qd_call H1'.out hk hp okS_expr)
  obtain ⟨a9,n9,c9,rfl⟩:=sl_shape hn.1
  have O2:=hidE (show OptS w3 (g + 1) (.slice a9 n9 c9) (exprS (mustS wBy (takeS wGroup st).2)).1 (okS (exprS (mustS wBy (takeS wGroup st).2)).2) from ⟨hn.1,fun e => .inr (hn.2 e)⟩)
  have BS:=blk_set H2.out.bq 2 (.slice a9 n9 c9) (by simp)
  have H3:=hidE (qd_store H2.out 2 (.slice a9 n9 c9) (va':=va) (vw':=vw) (vb':=.slice a9 n9 c9) (q':={ q with bys:=(exprS (mustS wBy (takeS wGroup st).2)).1 }) (by simpa using BS) H2.out.ag H2.out.hw O2.out)
  have f1:=H2.out.bq.fz 2
  have c1:=H2.out.bq.c 2 (by simp)
  simp only [List.getElem?_cons_zero,List.getElem?_cons_succ] at c1
  clear hk hp hn E1 H1' H2 BS O2
  go_wp2_with fail
  refine HQ.out _ (.slice a9 n9 c9) _ rfl rfl rfl rfl ?_
  rw [EV.out]
  exact H3.out
theorem fSize (Q : Exit → Act → World → Prop) (X : Code) (C40 : Code) (h40 : rgn 40 (Tryz.f13.body.getD .skip) = some C40) (C41 : Code) (h41 : rgn 41 (Tryz.f13.body.getD .skip) = some C41) (t : List Value) (g gr gq : Nat) (wv : Value) (all : Ws) (okw : WsOk all) (st : St) (va vw vb : Value) (q : Qy) (W w : World) (ht : t.length = 167) (k2 : t[2]? = some (.pointer (some ⟨gr,0,none⟩))) (k6 : t[6]? = some (.pointer (some ⟨g,0,none⟩))) (k7 : t[7]? = some (.pointer (some ⟨gq,0,none⟩)))
  (h : QD W w g gr gq wv all st va vw vb q)
  (hQ : ∀ (t' : List Value)  (w' : World),t'.length = 167 → t'[2]? = some (.pointer (some ⟨gr,0,none⟩)) → t'[6]? = some (.pointer (some ⟨g,0,none⟩)) → t'[7]? = some (.pointer (some ⟨gq,0,none⟩)) → QD W w' g gr gq wv all (spanS st).2 va vw vb { q with size:=(spanS st).1,slide:=(spanS st).1 } → Code.wp Tryz.prog X Q { tmps:=t'.toArray,defers:=[] } w') :
  Code.wp Tryz.prog (.seq C40 (.seq C41 X)) Q { tmps:=t.toArray,defers:=[] } w:=by
 have HQ:=hidE hQ
 have H:=hidE h
 have OKW:=hidE okw
 clear hQ h okw
 have EX:=hidE (rs_span g wv all OKW.out st w H.out.ps)
 obtain ⟨f,hf,hi⟩:=listedQ t ht
 have e2:=some_at (hi 2 (by decide)) k2
 have e6:=some_at (hi 6 (by decide)) k6
 have e7:=some_at (hi 7 (by decide)) k7
 rw [e2,e6,e7] at hf
 clear hi ht k2 e2 k6 e6 k7 e7
 subst hf
 unfold Tryz.f13 at h40
 simp [rgn] at h40
 subst h40
 unfold Tryz.f13 at h41
 simp [rgn] at h41
 subst h41
 go_wp2_with fail
 refine EX.out.mono ?_
 rintro r w1 ⟨rfl,hk,hp⟩
 have H2:=hidE (qd_call H.out hk hp okS_span)
 have BS:=blk_set H2.out.bq 3 (.int .i64 (spanS st).1) (by simp)
 have H3:=hidE (qd_store H2.out 3 (.int .i64 (spanS st).1) (va':=va) (vw':=vw) (vb':=vb) (q':={ q with size:=(spanS st).1 }) (by simpa using BS) H2.out.ag H2.out.hw H2.out.hb)
 have BS2:=blk_set H3.out.bq 4 (.int .i64 (spanS st).1) (by simp)
 have H4:=hidE (qd_store H3.out 4 (.int .i64 (spanS st).1) (va':=va) (vw':=vw) (vb':=vb) (q':={ q with size:=(spanS st).1,slide:=(spanS st).1 }) (by simpa using BS2) H3.out.ag H3.out.hw H3.out.hb)
 have f1:=H2.out.bq.fz 3
 have c1:=H2.out.bq.c 3 (by simp)
 have f2:=H3.out.bq.fz 4
 have f2':=H2.out.bq.fz 4
 have c2':=H2.out.bq.c 4 (by simp)
 have c2:=H3.out.bq.c 3 (by simp)
 have c3:=H3.out.bq.c 4 (by simp)
 simp only [List.getElem?_cons_zero,List.getElem?_cons_succ] at c1 c2 c3 c2'
 clear hk hp EX H H2 H3 BS BS2
 go_wp2_with fail
 exact HQ.out _  _ rfl rfl rfl rfl H4.out
structure QN (W w : World) (g gr gq ga gn gk : Nat) (wv : Value) (all : Ws) (st : St) (va vw vb : Value) (q : Qy) (k : Int) : Prop where
 qa : QA W w g gr gq ga wv all st va vw vb q k (.slice none 0 0) []
 bn : BlkAt w gn [.string ⟨#[99,111,117,110,116]⟩,.string ⟨#[115,117,109]⟩,.string ⟨#[109,105,110]⟩,.string ⟨#[109,97,120]⟩]
 bk : BlkAt w gk [.int .i64 2,.int .i64 3,.int .i64 4,.int .i64 5]
 ln : gq < gn
 lk : gq < gk
 nn : gn < ga
 nk : gk < ga
theorem qn_call {W w w' : World} {g gr gq ga gn gk : Nat} {wv : Value} {all : Ws} {st st' : St} {va vw vb : Value} {q : Qy} {k : Int} (h : QN W w g gr gq ga gn gk wv all st va vw vb q k) (hk : KeptB w w' (fun q => q = g)) (hp : RDS w' g wv all st') (ho : okS st' = true → okS st = true) : QN W w' g gr gq ga gn gk wv all st' va vw vb q k:=by
 have l3:=h.qa.qd.lq
 have l4:=h.ln
 have l5:=h.lk
 exact ⟨qa_call h.qa hk hp ho,blk_kept h.bn hk (by omega),blk_kept h.bk hk (by omega),h.ln,h.lk,h.nn,h.nk⟩
theorem qn_store {W w : World} {g gr gq ga gn gk : Nat} {wv : Value} {all : Ws} {st : St} {va vw vb : Value} {q : Qy} {k : Int} (h : QN W w g gr gq ga gn gk wv all st va vw vb q k) (k' : Int) : QN W (w.setCell ⟨ga,0,none⟩ (.int .i64 k')) g gr gq ga gn gk wv all st va vw vb q k':=by
 have ks : KeptB w (w.setCell ⟨ga,0,none⟩ (.int .i64 k')) (fun q => q = ga):=keptB_set (keptB_of_below (bad:=fun q => q = ga) (Below.refl w.heap.size w)) rfl 0 _
 have l4:=h.nn
 have l5:=h.nk
 exact ⟨qa_store h.qa 0 _ (by simpa using blk_set h.qa.ba 0 (.int .i64 k') (by simp)) h.qa.ho,blk_kept h.bn ks (by omega),blk_kept h.bk ks (by omega),h.ln,h.lk,h.nn,h.nk⟩
theorem tmp_at {t : List Value} {i : Nat} {v : Value} (h : t[i]? = some v) : ((t.toArray : Array Value).getD i undef) = v:=by
 simp [Array.getD_eq_getD_getElem?,h]
theorem fNames (Q : Exit → Act → World → Prop) (L X : Code) (C9 : Code) (h9 : rgn 9 (Tryz.f13.body.getD .skip) = some C9) (C10 : Code) (h10 : rgn 10 (Tryz.f13.body.getD .skip) = some C10) (C11 : Code) (h11 : rgn 11 (Tryz.f13.body.getD .skip) = some C11) (C12 : Code) (h12 : rgn 12 (Tryz.f13.body.getD .skip) = some C12) (t : List Value) (g gr gq : Nat) (wv : Value) (all : Ws) (okw : WsOk all) (st : St) (va vw vb : Value) (q : Qy) (W w : World) (ht : t.length = 167) (k2 : t[2]? = some (.pointer (some ⟨gr,0,none⟩))) (k6 : t[6]? = some (.pointer (some ⟨g,0,none⟩))) (k7 : t[7]? = some (.pointer (some ⟨gq,0,none⟩)))
  (h : QD W w g gr gq wv all st va vw vb q)
  (hQ : ∀ (t' : List Value) (ga gn gk : Nat) (w' : World),t'.length = 167 → t'[2]? = some (.pointer (some ⟨gr,0,none⟩)) → t'[6]? = some (.pointer (some ⟨g,0,none⟩)) → t'[7]? = some (.pointer (some ⟨gq,0,none⟩)) → t'[9]? = some (.slice (some ⟨gn,0,none⟩) 4 4) → t'[10]? = some (.slice (some ⟨gk,0,none⟩) 4 4) → t'[11]? = some (.pointer (some ⟨ga,0,none⟩)) → t'[12]? = some (.int .i64 0) → QN W w' g gr gq ga gn gk wv all st va vw vb q 0 → Code.wp Tryz.prog L (Exit.then (Code.wp Tryz.prog X Q) Q) { tmps:=t'.toArray,defers:=[] } w') :
  Code.wp Tryz.prog (.seq C9 (.seq C10 (.seq C11 (.seq (.seq C12 L) X)))) Q { tmps:=t.toArray,defers:=[] } w:=by
 have HQ:=hidE hQ
 have H:=hidE h
 have OKW:=hidE okw
 clear hQ h okw
 have lgq:=H.out.bq.lt
 have l2:=H.out.lg
 have l3:=H.out.lq
 have b1:=below_alloc w (.cells [.string ⟨#[99,111,117,110,116]⟩,.string ⟨#[115,117,109]⟩,.string ⟨#[109,105,110]⟩,.string ⟨#[109,97,120]⟩].toArray 9)
 have z1 : (w.alloc (.cells [.string ⟨#[99,111,117,110,116]⟩,.string ⟨#[115,117,109]⟩,.string ⟨#[109,105,110]⟩,.string ⟨#[109,97,120]⟩].toArray 9)).heap.size = w.heap.size + 1:=by simp
 have b2:=below_alloc (w.alloc (.cells [.string ⟨#[99,111,117,110,116]⟩,.string ⟨#[115,117,109]⟩,.string ⟨#[109,105,110]⟩,.string ⟨#[109,97,120]⟩].toArray 9)) (.cells [.int .i64 2,.int .i64 3,.int .i64 4,.int .i64 5].toArray 3)
 have z2 : ((w.alloc (.cells [.string ⟨#[99,111,117,110,116]⟩,.string ⟨#[115,117,109]⟩,.string ⟨#[109,105,110]⟩,.string ⟨#[109,97,120]⟩].toArray 9)).alloc (.cells [.int .i64 2,.int .i64 3,.int .i64 4,.int .i64 5].toArray 3)).heap.size = w.heap.size + 2:=by simp
 have b3:=below_alloc ((w.alloc (.cells [.string ⟨#[99,111,117,110,116]⟩,.string ⟨#[115,117,109]⟩,.string ⟨#[109,105,110]⟩,.string ⟨#[109,97,120]⟩].toArray 9)).alloc (.cells [.int .i64 2,.int .i64 3,.int .i64 4,.int .i64 5].toArray 3)) (.cells [.int .i64 0,.slice none 0 0].toArray 46)
 have B12 : Below w.heap.size w ((w.alloc (.cells [.string ⟨#[99,111,117,110,116]⟩,.string ⟨#[115,117,109]⟩,.string ⟨#[109,105,110]⟩,.string ⟨#[109,97,120]⟩].toArray 9)).alloc (.cells [.int .i64 2,.int .i64 3,.int .i64 4,.int .i64 5].toArray 3)):=b1.trans (b2.mono b1.size)
 have B13 : Below w.heap.size w (((w.alloc (.cells [.string ⟨#[99,111,117,110,116]⟩,.string ⟨#[115,117,109]⟩,.string ⟨#[109,105,110]⟩,.string ⟨#[109,97,120]⟩].toArray 9)).alloc (.cells [.int .i64 2,.int .i64 3,.int .i64 4,.int .i64 5].toArray 3)).alloc (.cells [.int .i64 0,.slice none 0 0].toArray 46)):=B12.trans (b3.mono B12.size)
 have N1:=blk_below (blk_alloc w [.string ⟨#[99,111,117,110,116]⟩,.string ⟨#[115,117,109]⟩,.string ⟨#[109,105,110]⟩,.string ⟨#[109,97,120]⟩] 9) (b2.trans (b3.mono b2.size)) (by omega)
 have N2:=blk_below (blk_alloc (w.alloc (.cells [.string ⟨#[99,111,117,110,116]⟩,.string ⟨#[115,117,109]⟩,.string ⟨#[109,105,110]⟩,.string ⟨#[109,97,120]⟩].toArray 9)) [.int .i64 2,.int .i64 3,.int .i64 4,.int .i64 5] 3) b3 (by omega)
 have N3:=blk_alloc ((w.alloc (.cells [.string ⟨#[99,111,117,110,116]⟩,.string ⟨#[115,117,109]⟩,.string ⟨#[109,105,110]⟩,.string ⟨#[109,97,120]⟩].toArray 9)).alloc (.cells [.int .i64 2,.int .i64 3,.int .i64 4,.int .i64 5].toArray 3)) [.int .i64 0,.slice none 0 0] 46
 have T3:=tyAt_new ((w.alloc (.cells [.string ⟨#[99,111,117,110,116]⟩,.string ⟨#[115,117,109]⟩,.string ⟨#[109,105,110]⟩,.string ⟨#[109,97,120]⟩].toArray 9)).alloc (.cells [.int .i64 2,.int .i64 3,.int .i64 4,.int .i64 5].toArray 3)) #[.int .i64 0,.slice none 0 0] 46
 rw [z1] at N2
 rw [z2] at N3 T3
 have QDc:=qd_call H.out (keptB_of_below B13) (rds_below H.out.ps B13) id
 have nv : va.ownBlock ≠ some (w.heap.size + 2):=by
  obtain ⟨ps,e1,e2,e3,e4⟩:=H.out.ag
  intro e
  have:=(own_at e2 _ e).2
  omega
 have HS : Hid (QN W (((w.alloc (.cells [.string ⟨#[99,111,117,110,116]⟩,.string ⟨#[115,117,109]⟩,.string ⟨#[109,105,110]⟩,.string ⟨#[109,97,120]⟩].toArray 9)).alloc (.cells [.int .i64 2,.int .i64 3,.int .i64 4,.int .i64 5].toArray 3)).alloc (.cells [.int .i64 0,.slice none 0 0].toArray 46)) g gr gq (w.heap.size + 2) w.heap.size (w.heap.size + 1) wv all st va vw vb q 0):=⟨⟨QDc,N3,T3,by omega,nv,⟨rfl,fun _ => .inl ⟨rfl,rfl⟩⟩⟩,N1,N2,by omega,by omega,by omega,by omega⟩
 clear b1 z1 b2 z2 b3 B12 B13 N1 N2 N3 T3 QDc nv
 obtain ⟨f,hf,hi⟩:=listedQ t ht
 have e2:=some_at (hi 2 (by decide)) k2
 have e6:=some_at (hi 6 (by decide)) k6
 have e7:=some_at (hi 7 (by decide)) k7
 rw [e2,e6,e7] at hf
 clear hi ht k2 e2 k6 e6 k7 e7
 subst hf
 unfold Tryz.f13 at h9
 simp [rgn] at h9
 subst h9
 unfold Tryz.f13 at h10
 simp [rgn] at h10
 subst h10
 unfold Tryz.f13 at h11
 simp [rgn] at h11
 subst h11
 unfold Tryz.f13 at h12
 simp [rgn] at h12
 subst h12
 go_wp2_with fail
 rename_i K9 hK9
 exact wp_then (HQ.out _ (w.heap.size + 2) w.heap.size (w.heap.size + 1) _ rfl rfl rfl rfl rfl rfl rfl rfl HS.out) hK9
end Go.Proofs.YteaanpdckkmjoaaGreatDoor

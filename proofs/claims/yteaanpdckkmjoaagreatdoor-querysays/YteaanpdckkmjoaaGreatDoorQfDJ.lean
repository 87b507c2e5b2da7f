/- Several texts in one, each with its own head. What is proved: what the parts say. Conditions: theirs. -/
import Derived.Test.YteaanpdckkmjoaaGreatDoorQfD1
import Derived.Test.YteaanpdckkmjoaaGreatDoorQfD2
set_option linter.unusedVariables false
set_option linter.unusedSimpArgs false
set_option maxRecDepth 100000
set_option maxHeartbeats 8000000
namespace Go.Proofs.YteaanpdckkmjoaaGreatDoor
open Go.ChangeShapes Go.WideShapes Go.ChangeAt Go.RowKit
theorem fKindL (Q : Exit → Act → World → Prop) (C13 : Code) (h13 : stm 13 (Tryz.f13.body.getD .skip) = some C13) (t : List Value) (g gr gq ga gn gk : Nat) (wv : Value) (all : Ws) (okw : WsOk all) (st : St) (va vw vb : Value) (q : Qy) (k : Int) (W w : World) (hk0 : k = 0) (ht : t.length = 167) (k2 : t[2]? = some (.pointer (some ⟨gr,0,none⟩))) (k6 : t[6]? = some (.pointer (some ⟨g,0,none⟩))) (k7 : t[7]? = some (.pointer (some ⟨gq,0,none⟩))) (k9 : t[9]? = some (.slice (some ⟨gn,0,none⟩) 4 4)) (k10 : t[10]? = some (.slice (some ⟨gk,0,none⟩) 4 4)) (k11 : t[11]? = some (.pointer (some ⟨ga,0,none⟩))) (k12 : t[12]? = some (.int .i64 0))
  (h : QN W w g gr gq ga gn gk wv all st va vw vb q k)
  (hQ : ∀ (t' : List Value)  (w' : World),t'.length = 167 → t'[2]? = some (.pointer (some ⟨gr,0,none⟩)) → t'[6]? = some (.pointer (some ⟨g,0,none⟩)) → t'[7]? = some (.pointer (some ⟨gq,0,none⟩)) → t'[11]? = some (.pointer (some ⟨ga,0,none⟩)) → QN W w' g gr gq ga gn gk wv all (kindS st).2 va vw vb q (kindS st).1 → Q .normal { tmps:=t'.toArray,defers:=[] } w') :
  Code.wp Tryz.prog C13 Q { tmps:=t.toArray,defers:=[] } w:=by
 have HQ:=hidE hQ
 have OKW:=hidE okw
 clear hQ okw
 unfold Tryz.f13 at h13
 simp [stm,lead] at h13
 subst h13
 obtain ⟨R0,hR0⟩ : ∃ R0,kindS st = R0:=⟨_,rfl⟩
 refine wp_block (wp_loop (fun a wr => ∃ (t : List Value) (j : Nat) (k1 : Int) (st1 : St),a = { tmps:=t.toArray,defers:=[] } ∧ t.length = 167 ∧ (t[2]? = some (.pointer (some ⟨gr,0,none⟩)) ∧ t[6]? = some (.pointer (some ⟨g,0,none⟩)) ∧ t[7]? = some (.pointer (some ⟨gq,0,none⟩)) ∧ t[9]? = some (.slice (some ⟨gn,0,none⟩) 4 4) ∧ t[10]? = some (.slice (some ⟨gk,0,none⟩) 4 4) ∧ t[11]? = some (.pointer (some ⟨ga,0,none⟩))) ∧ t[12]? = some (.int .i64 (j : Int)) ∧ j ≤ 4 ∧ QN W wr g gr gq ga gn gk wv all st1 va vw vb q k1 ∧ ((k1 = 0 ∧ kindF j st1 = R0) ∨ (k1 ≠ 0 ∧ (k1,st1) = R0))) (fun a wr => 5 - (intOf (a.tmps.getD 12 undef)).toNat) ?_ ?_)
 ·exact ⟨t,0,k,st,rfl,ht,⟨k2,k6,k7,k9,k10,k11⟩,(by simpa using k12),by decide,h,.inl ⟨hk0,by rw [kindF_0];exact hR0⟩⟩
 ·rintro a wr ⟨t,j,k1,st1,rfl,ht,⟨k2,k6,k7,k9,k10,k11⟩,k12,hj,hq,hor⟩
  by_cases hx : k1 ≠ 0 ∨ j = 4
  ·refine fKindX _ _ _ (by kernel_rfl) t g gr gq ga gn gk wv all st1 va vw vb q k1 W wr j hj hx ht k2 k6 k7 k9 k10 k11 k12 hq ?_
   intro t' w' ht' a2 a6 a7 a11 h1
   refine then_exit (in_exit ?_)
   have e9 : (k1,st1) = R0:=by
    rcases hor with ⟨e1,e2⟩ | ⟨e1,e2⟩
    ·have h4 : j = 4:=by
      rcases hx with h9 | h9
      ·exact absurd e1 h9
      ·exact h9
     rw [← e2,h4,e1]
     rfl
    ·exact e2
   have e7 : k1 = (kindS st).1:=by rw [hR0,← e9]
   have e8 : st1 = (kindS st).2:=by rw [hR0,← e9]
   rw [e7,e8] at h1
   exact HQ.out t' w' ht' a2 a6 a7 a11 h1
  ·have hk1 : k1 = 0:=by
    by_cases h9 : k1 = 0
    ·exact h9
    ·exact absurd (.inl h9) hx
   have hj4 : j ≠ 4:=fun e => hx (.inr e)
   have hF : kindF j st1 = R0:=by
    rcases hor with ⟨e1,e2⟩ | ⟨e1,e2⟩
    ·exact e2
    ·exact absurd hk1 e1
   have hj3 : j = 0 ∨ j = 1 ∨ j = 2 ∨ j = 3:=by omega
   clear hx hor hj hj4
   rcases hj3 with rfl | rfl | rfl | rfl
   ·refine fKind0 _ _ _ _ (by kernel_rfl) (by kernel_rfl) (by kernel_rfl) t g gr gq ga gn gk wv all OKW.out st1 va vw vb q k1 W wr hk1 ht k2 k6 k7 k9 k10 k11 k12 hq ?_ ?_
    ·intro hb t' w' ht' a2 a6 a7 a9 a10 a11 a12 h1
     refine then_normal ?_
     refine ⟨⟨t',1,k1,st1,rfl,ht',⟨a2,a6,a7,a9,a10,a11⟩,a12,by decide,h1,.inl ⟨hk1,?_⟩⟩,?_⟩
     ·rw [← hF]
      simp only [kindF,hb]
      rfl
     ·show 5 - (intOf ((t'.toArray : Array Value).getD 12 undef)).toNat < 5 - (intOf ((t.toArray : Array Value).getD 12 undef)).toNat
      rw [tmp_at k12,tmp_at a12]
      simp [intOf]
    ·intro hb t' w' ht' a2 a6 a7 a9 a10 a11 a12 h1
     refine then_normal ?_
     refine ⟨⟨t',1,2,_,rfl,ht',⟨a2,a6,a7,a9,a10,a11⟩,a12,by decide,h1,.inr ⟨by decide,?_⟩⟩,?_⟩
     ·rw [← hF]
      simp only [kindF,hb,if_true]
     ·show 5 - (intOf ((t'.toArray : Array Value).getD 12 undef)).toNat < 5 - (intOf ((t.toArray : Array Value).getD 12 undef)).toNat
      rw [tmp_at k12,tmp_at a12]
      simp [intOf]
   ·refine fKind1 _ _ _ _ (by kernel_rfl) (by kernel_rfl) (by kernel_rfl) t g gr gq ga gn gk wv all OKW.out st1 va vw vb q k1 W wr hk1 ht k2 k6 k7 k9 k10 k11 k12 hq ?_ ?_
    ·intro hb t' w' ht' a2 a6 a7 a9 a10 a11 a12 h1
     refine then_normal ?_
     refine ⟨⟨t',2,k1,st1,rfl,ht',⟨a2,a6,a7,a9,a10,a11⟩,a12,by decide,h1,.inl ⟨hk1,?_⟩⟩,?_⟩
     ·rw [← hF]
      simp only [kindF,hb]
      rfl
     ·show 5 - (intOf ((t'.toArray : Array Value).getD 12 undef)).toNat < 5 - (intOf ((t.toArray : Array Value).getD 12 undef)).toNat
      rw [tmp_at k12,tmp_at a12]
      simp [intOf]
    ·intro hb t' w' ht' a2 a6 a7 a9 a10 a11 a12 h1
     refine then_normal ?_
     refine ⟨⟨t',2,3,_,rfl,ht',⟨a2,a6,a7,a9,a10,a11⟩,a12,by decide,h1,.inr ⟨by decide,?_⟩⟩,?_⟩
     ·rw [← hF]
      simp only [kindF,hb,if_true]
     ·show 5 - (intOf ((t'.toArray : Array Value).getD 12 undef)).toNat < 5 - (intOf ((t.toArray : Array Value).getD 12 undef)).toNat
      rw [tmp_at k12,tmp_at a12]
      simp [intOf]
   ·refine fKind2 _ _ _ _ (by kernel_rfl) (by kernel_rfl) (by kernel_rfl) t g gr gq ga gn gk wv all OKW.out st1 va vw vb q k1 W wr hk1 ht k2 k6 k7 k9 k10 k11 k12 hq ?_ ?_
    ·intro hb t' w' ht' a2 a6 a7 a9 a10 a11 a12 h1
     refine then_normal ?_
     refine ⟨⟨t',3,k1,st1,rfl,ht',⟨a2,a6,a7,a9,a10,a11⟩,a12,by decide,h1,.inl ⟨hk1,?_⟩⟩,?_⟩
     ·rw [← hF]
      simp only [kindF,hb]
      rfl
     ·show 5 - (intOf ((t'.toArray : Array Value).getD 12 undef)).toNat < 5 - (intOf ((t.toArray : Array Value).getD 12 undef)).toNat
      rw [tmp_at k12,tmp_at a12]
      simp [intOf]
    ·intro hb t' w' ht' a2 a6 a7 a9 a10 a11 a12 h1
     refine then_normal ?_
     refine ⟨⟨t',3,4,_,rfl,ht',⟨a2,a6,a7,a9,a10,a11⟩,a12,by decide,h1,.inr ⟨by decide,?_⟩⟩,?_⟩
     ·rw [← hF]
      simp only [kindF,hb,if_true]
     ·show 5 - (intOf ((t'.toArray : Array Value).getD 12 undef)).toNat < 5 - (intOf ((t.toArray : Array Value).getD 12 undef)).toNat
      rw [tmp_at k12,tmp_at a12]
      simp [intOf]
   ·refine fKind3 _ _ _ _ (by kernel_rfl) (by kernel_rfl) (by kernel_rfl) t g gr gq ga gn gk wv all OKW.out st1 va vw vb q k1 W wr hk1 ht k2 k6 k7 k9 k10 k11 k12 hq ?_ ?_
    ·intro hb t' w' ht' a2 a6 a7 a9 a10 a11 a12 h1
     refine then_normal ?_
     refine ⟨⟨t',4,k1,st1,rfl,ht',⟨a2,a6,a7,a9,a10,a11⟩,a12,by decide,h1,.inl ⟨hk1,?_⟩⟩,?_⟩
     ·rw [← hF]
      simp only [kindF,hb]
      rfl
     ·show 5 - (intOf ((t'.toArray : Array Value).getD 12 undef)).toNat < 5 - (intOf ((t.toArray : Array Value).getD 12 undef)).toNat
      rw [tmp_at k12,tmp_at a12]
      simp [intOf]
    ·intro hb t' w' ht' a2 a6 a7 a9 a10 a11 a12 h1
     refine then_normal ?_
     refine ⟨⟨t',4,5,_,rfl,ht',⟨a2,a6,a7,a9,a10,a11⟩,a12,by decide,h1,.inr ⟨by decide,?_⟩⟩,?_⟩
     ·rw [← hF]
      simp only [kindF,hb,if_true]
     ·show 5 - (intOf ((t'.toArray : Array Value).getD 12 undef)).toNat < 5 - (intOf ((t.toArray : Array Value).getD 12 undef)).toNat
      rw [tmp_at k12,tmp_at a12]
      simp [intOf]
theorem fFail (Q : Exit → Act → World → Prop) (X : Code) (C18 : Code) (h18 : rgn 18 (Tryz.f13.body.getD .skip) = some C18) (C19 : Code) (h19 : rgn 19 (Tryz.f13.body.getD .skip) = some C19) (t : List Value) (g gr gq ga : Nat) (wv : Value) (all : Ws) (okw : WsOk all) (st : St) (va vw vb : Value) (q : Qy) (k : Int) (vo : Value) (of : List Nd) (W w : World) (ht : t.length = 167) (k2 : t[2]? = some (.pointer (some ⟨gr,0,none⟩))) (k6 : t[6]? = some (.pointer (some ⟨g,0,none⟩))) (k7 : t[7]? = some (.pointer (some ⟨gq,0,none⟩))) (k11 : t[11]? = some (.pointer (some ⟨ga,0,none⟩)))
  (h : QA W w g gr gq ga wv all st va vw vb q k vo of)
  (hQ : ∀ (t' : List Value)  (w' : World),t'.length = 167 → t'[2]? = some (.pointer (some ⟨gr,0,none⟩)) → t'[6]? = some (.pointer (some ⟨g,0,none⟩)) → t'[7]? = some (.pointer (some ⟨gq,0,none⟩)) → t'[11]? = some (.pointer (some ⟨ga,0,none⟩)) → QA W w' g gr gq ga wv all (if k = 0 then failS st else st) va vw vb q k vo of → Code.wp Tryz.prog X Q { tmps:=t'.toArray,defers:=[] } w') :
  Code.wp Tryz.prog (.seq (.seq C18 (.cond (.tmp 57) C19 .skip)) X) Q { tmps:=t.toArray,defers:=[] } w:=by
 have HQ:=hidE hQ
 have H:=hidE h
 have OKW:=hidE okw
 clear hQ h okw
 have FL:=hidE (rs_fail g wv all st w H.out.qd.ps)
 have a0:=H.out.ba.c 0 (by simp)
 simp only [List.getElem?_cons_zero,List.getElem?_cons_succ] at a0
 obtain ⟨f,hf,hi⟩:=listedQ t ht
 have e2:=some_at (hi 2 (by decide)) k2
 have e6:=some_at (hi 6 (by decide)) k6
 have e7:=some_at (hi 7 (by decide)) k7
 have e11:=some_at (hi 11 (by decide)) k11
 rw [e2,e6,e7,e11] at hf
 clear hi ht k2 e2 k6 e6 k7 e7 k11 e11
 subst hf
 unfold Tryz.f13 at h18
 simp [rgn] at h18
 subst h18
 unfold Tryz.f13 at h19
 simp [rgn] at h19
 subst h19
 by_cases hk : k = 0
 ·subst hk
  go_wp2_with fail
  refine FL.out.mono ?_
  rintro r w1 ⟨rfl,hk,hp⟩
  have H1:=hidE (qa_call H.out hk hp okS_fail)
  clear hk hp FL H a0
  go_wp2_with fail
  exact HQ.out _  _ rfl rfl rfl rfl rfl (by first | (rw [if_pos rfl];exact H1.out) | (rw [if_pos trivial];exact H1.out))
 ·have q0 : (k == 0) = false:=by simpa using hk
  have HK:=hidE hk
  go_wp2_with fail
  exact HQ.out _  _ rfl rfl rfl rfl rfl (by rw [if_neg HK.out];exact H.out)
theorem fMustA20 (Q : Exit → Act → World → Prop) (X : Code) (C20 : Code) (h20 : rgn 20 (Tryz.f13.body.getD .skip) = some C20) (t : List Value) (g gr gq ga : Nat) (wv : Value) (all : Ws) (okw : WsOk all) (st : St) (va vw vb : Value) (q : Qy) (k : Int) (vo : Value) (of : List Nd) (W w : World) (ht : t.length = 167) (k2 : t[2]? = some (.pointer (some ⟨gr,0,none⟩))) (k6 : t[6]? = some (.pointer (some ⟨g,0,none⟩))) (k7 : t[7]? = some (.pointer (some ⟨gq,0,none⟩))) (k11 : t[11]? = some (.pointer (some ⟨ga,0,none⟩)))
  (h : QA W w g gr gq ga wv all st va vw vb q k vo of)
  (hQ : ∀ (t' : List Value)  (w' : World),t'.length = 167 → t'[2]? = some (.pointer (some ⟨gr,0,none⟩)) → t'[6]? = some (.pointer (some ⟨g,0,none⟩)) → t'[7]? = some (.pointer (some ⟨gq,0,none⟩)) → t'[11]? = some (.pointer (some ⟨ga,0,none⟩)) → QA W w' g gr gq ga wv all (mustS wOpen st) va vw vb q k vo of → Code.wp Tryz.prog X Q { tmps:=t'.toArray,defers:=[] } w') :
  Code.wp Tryz.prog (.seq C20 X) Q { tmps:=t.toArray,defers:=[] } w:=by
 have HQ:=hidE hQ
 have H:=hidE h
 have OKW:=hidE okw
 clear hQ h okw
 have MU:=hidE (rs_must g wv all OKW.out wOpen (by decide) st w H.out.qd.ps)
 obtain ⟨f,hf,hi⟩:=listedQ t ht
 have e2:=some_at (hi 2 (by decide)) k2
 have e6:=some_at (hi 6 (by decide)) k6
 have e7:=some_at (hi 7 (by decide)) k7
 have e11:=some_at (hi 11 (by decide)) k11
 rw [e2,e6,e7,e11] at hf
 clear hi ht k2 e2 k6 e6 k7 e7 k11 e11
 subst hf
 unfold Tryz.f13 at h20
 simp [rgn] at h20
 subst h20
 go_wp2_with fail
 refine MU.out.mono ?_
 rintro r w1 ⟨rfl,hk,hp⟩
 have H1:=hidE (qa_call H.out hk hp okS_must)
 clear hk hp MU H
 go_wp2_with fail
 exact HQ.out _  _ rfl rfl rfl rfl rfl H1.out
theorem fMustA27 (Q : Exit → Act → World → Prop) (X : Code) (C27 : Code) (h27 : rgn 27 (Tryz.f13.body.getD .skip) = some C27) (t : List Value) (g gr gq ga : Nat) (wv : Value) (all : Ws) (okw : WsOk all) (st : St) (va vw vb : Value) (q : Qy) (k : Int) (vo : Value) (of : List Nd) (W w : World) (ht : t.length = 167) (k2 : t[2]? = some (.pointer (some ⟨gr,0,none⟩))) (k6 : t[6]? = some (.pointer (some ⟨g,0,none⟩))) (k7 : t[7]? = some (.pointer (some ⟨gq,0,none⟩))) (k11 : t[11]? = some (.pointer (some ⟨ga,0,none⟩)))
  (h : QA W w g gr gq ga wv all st va vw vb q k vo of)
  (hQ : ∀ (t' : List Value)  (w' : World),t'.length = 167 → t'[2]? = some (.pointer (some ⟨gr,0,none⟩)) → t'[6]? = some (.pointer (some ⟨g,0,none⟩)) → t'[7]? = some (.pointer (some ⟨gq,0,none⟩)) → t'[11]? = some (.pointer (some ⟨ga,0,none⟩)) → QA W w' g gr gq ga wv all (mustS wClose st) va vw vb q k vo of → Code.wp Tryz.prog X Q { tmps:=t'.toArray,defers:=[] } w') :
  Code.wp Tryz.prog (.seq C27 X) Q { tmps:=t.toArray,defers:=[] } w:=by
 have HQ:=hidE hQ
 have H:=hidE h
 have OKW:=hidE okw
 clear hQ h okw
 have MU:=hidE (rs_must g wv all OKW.out wClose (by decide) st w H.out.qd.ps)
 obtain ⟨f,hf,hi⟩:=listedQ t ht
 have e2:=some_at (hi 2 (by decide)) k2
 have e6:=some_at (hi 6 (by decide)) k6
 have e7:=some_at (hi 7 (by decide)) k7
 have e11:=some_at (hi 11 (by decide)) k11
 rw [e2,e6,e7,e11] at hf
 clear hi ht k2 e2 k6 e6 k7 e7 k11 e11
 subst hf
 unfold Tryz.f13 at h27
 simp [rgn] at h27
 subst h27
 go_wp2_with fail
 refine MU.out.mono ?_
 rintro r w1 ⟨rfl,hk,hp⟩
 have H1:=hidE (qa_call H.out hk hp okS_must)
 clear hk hp MU H
 go_wp2_with fail
 exact HQ.out _  _ rfl rfl rfl rfl rfl H1.out
theorem fStar (Q : Exit → Act → World → Prop) (X : Code) (C21 : Code) (h21 : rgn 21 (Tryz.f13.body.getD .skip) = some C21) (C22 : Code) (h22 : rgn 22 (Tryz.f13.body.getD .skip) = some C22) (C23 : Code) (h23 : rgn 23 (Tryz.f13.body.getD .skip) = some C23) (C24 : Code) (h24 : rgn 24 (Tryz.f13.body.getD .skip) = some C24) (C25 : Code) (h25 : rgn 25 (Tryz.f13.body.getD .skip) = some C25) (C26 : Code) (h26 : rgn 26 (Tryz.f13.body.getD .skip) = some C26) (t : List Value) (g gr gq ga : Nat) (wv : Value) (all : Ws) (okw : WsOk all) (st : St) (va vw vb : Value) (q : Qy) (k : Int) (vo : Value) (of : List Nd) (W w : World) (hvo : vo = .slice none 0 0) (hof : of = []) (ht : t.length = 167) (k2 : t[2]? = some (.pointer (some ⟨gr,0,none⟩))) (k6 : t[6]? = some (.pointer (some ⟨g,0,none⟩))) (k7 : t[7]? = some (.pointer (some ⟨gq,0,none⟩))) (k11 : t[11]? = some (.pointer (some ⟨ga,0,none⟩)))
  (h : QA W w g gr gq ga wv all st va vw vb q k vo of)
  (hQ : ∀ (t' : List Value) (vo' : Value) (w' : World),t'.length = 167 → t'[2]? = some (.pointer (some ⟨gr,0,none⟩)) → t'[6]? = some (.pointer (some ⟨g,0,none⟩)) → t'[7]? = some (.pointer (some ⟨gq,0,none⟩)) → t'[11]? = some (.pointer (some ⟨ga,0,none⟩)) → QA W w' g gr gq ga wv all (bodyS k st).2.2 va vw vb q (bodyS k st).1 vo' (bodyS k st).2.1 → Code.wp Tryz.prog X Q { tmps:=t'.toArray,defers:=[] } w') :
  Code.wp Tryz.prog (.seq C21 (.seq (.seq C22 (.cond (.tmp 64) C23 .skip)) (.seq (.seq C24 (.cond (.tmp 67) C25 C26)) X))) Q { tmps:=t.toArray,defers:=[] } w:=by
 have HQ:=hidE hQ
 have H:=hidE h
 have OKW:=hidE okw
 clear hQ h okw
 have TK:=rs_take g wv all OKW.out wStar (by decide) st w H.out.qd.ps
 have EX:=hidE (fun w hp => rs_expr g wv all OKW.out st w hp)
 have a0:=H.out.ba.c 0 (by simp)
 have a1:=H.out.ba.c 1 (by simp)
 have f0:=H.out.ba.fz 0
 simp only [List.getElem?_cons_zero,List.getElem?_cons_succ] at a0 a1
 subst hvo hof
 obtain ⟨f,hf,hi⟩:=listedQ t ht
 have e2:=some_at (hi 2 (by decide)) k2
 have e6:=some_at (hi 6 (by decide)) k6
 have e7:=some_at (hi 7 (by decide)) k7
 have e11:=some_at (hi 11 (by decide)) k11
 rw [e2,e6,e7,e11] at hf
 clear hi ht k2 e2 k6 e6 k7 e7 k11 e11
 subst hf
 unfold Tryz.f13 at h21
 simp [rgn] at h21
 subst h21
 unfold Tryz.f13 at h22
 simp [rgn] at h22
 subst h22
 unfold Tryz.f13 at h23
 simp [rgn] at h23
 subst h23
 unfold Tryz.f13 at h24
 simp [rgn] at h24
 subst h24
 unfold Tryz.f13 at h25
 simp [rgn] at h25
 subst h25
 unfold Tryz.f13 at h26
 simp [rgn] at h26
 subst h26
 by_cases hk2 : k = 2
 ·cases hb : (takeS wStar st).1 with
  | true =>
   have EV:=hidE (show bodyS k st = (1,[],(takeS wStar st).2) by unfold bodyS;rw [if_pos ⟨hk2,hb⟩])
   subst hk2
   rw [hb] at TK
   have TKH:=hidE TK
   clear TK hb
   go_wp2_with fail
   refine TKH.out.mono ?_
   rintro r w1 ⟨rfl,hk,hp⟩
   have H1:=qa_call H.out hk hp okS_take
   have x0:=H1.ba.c 0 (by simp)
   have x1:=H1.ba.fz 0
   simp only [List.getElem?_cons_zero,List.getElem?_cons_succ] at x0
   have H2:=hidE (qa_store H1 0 (.int .i64 1) (k':=1) (vo':=.slice none 0 0) (of':=[]) (by simpa using blk_set H1.ba 0 (.int .i64 1) (by simp)) H1.ho)
   clear hk hp TKH H H1 a0 a1 f0
   go_wp2_with fail
   refine HQ.out _ (.slice none 0 0) _ rfl rfl rfl rfl rfl ?_
   rw [EV.out]
   exact H2.out
  | false =>
   have EV:=hidE (show bodyS k st = (k,(exprS st).1,(exprS st).2) by unfold bodyS;rw [if_neg (by rw [hb];simp)])
   rw [hb,take_no hb] at TK
   have TKH:=hidE TK
   have HK2:=hidE hk2
   clear TK hb
   subst hk2
   go_wp2_with fail
   refine TKH.out.mono ?_
   rintro r w1 ⟨rfl,hk,hp⟩
   have H1:=hidE (qa_call H.out hk hp id)
   have E1:=hidE (EX.out w1 hp)
   clear hk hp TKH H EX a0 a1 f0
   go_wp2_with fail
   refine E1.out.mono ?_
   rintro r w2 ⟨v9,rfl,hn,hk,hp⟩
   have H2:=hidE (qa_call H1.out hk hp okS_expr)
   obtain ⟨a9,n9,c9,rfl⟩:=sl_shape hn.1
   have O2:=hidE (show OptS w2 (g + 1) (.slice a9 n9 c9) (exprS st).1 (okS (exprS st).2) from ⟨hn.1,fun e => .inr (hn.2 e)⟩)
   have BS:=blk_set H2.out.ba 1 (.slice a9 n9 c9) (by simp)
   have H3:=hidE (qa_store H2.out 1 (.slice a9 n9 c9) (k':=2) (vo':=.slice a9 n9 c9) (of':=(exprS st).1) (by simpa using BS) O2.out)
   have f1:=H2.out.ba.fz 1
   have c1:=H2.out.ba.c 1 (by simp)
   simp only [List.getElem?_cons_zero,List.getElem?_cons_succ] at c1
   clear hk hp hn E1 H1 H2 BS O2
   go_wp2_with fail
   refine HQ.out _ (.slice a9 n9 c9) _ rfl rfl rfl rfl rfl ?_
   rw [EV.out]
   exact H3.out
 ·have EV:=hidE (show bodyS k st = (k,(exprS st).1,(exprS st).2) by unfold bodyS;rw [if_neg (fun h9 => hk2 h9.1)])
  have q0 : (k == 2) = false:=by simpa using hk2
  have H1:=H
  have E1:=hidE (EX.out w H.out.qd.ps)
  clear TK EX H
  go_wp2_with fail
  refine E1.out.mono ?_
  rintro r w2 ⟨v9,rfl,hn,hk,hp⟩
  have H2:=hidE (qa_call H1.out hk hp okS_expr)
  obtain ⟨a9,n9,c9,rfl⟩:=sl_shape hn.1
  have O2:=hidE (show OptS w2 (g + 1) (.slice a9 n9 c9) (exprS st).1 (okS (exprS st).2) from ⟨hn.1,fun e => .inr (hn.2 e)⟩)
  have BS:=blk_set H2.out.ba 1 (.slice a9 n9 c9) (by simp)
  have H3:=hidE (qa_store H2.out 1 (.slice a9 n9 c9) (k':=k) (vo':=.slice a9 n9 c9) (of':=(exprS st).1) (by simpa using BS) O2.out)
  have f1:=H2.out.ba.fz 1
  have c1:=H2.out.ba.c 1 (by simp)
  simp only [List.getElem?_cons_zero,List.getElem?_cons_succ] at c1
  clear hk hp hn E1 H1 H2 BS O2
  go_wp2_with fail
  refine HQ.out _ (.slice a9 n9 c9) _ rfl rfl rfl rfl rfl ?_
  rw [EV.out]
  exact H3.out
theorem fApp (Q : Exit → Act → World → Prop) (X : Code) (C28 : Code) (h28 : rgn 28 (Tryz.f13.body.getD .skip) = some C28) (t : List Value) (g gr gq ga : Nat) (wv : Value) (all : Ws) (okw : WsOk all) (st : St) (va vw vb : Value) (q : Qy) (k : Int) (vo : Value) (of : List Nd) (W w : World) (hn : q.aggs.length ≤ 200) (ht : t.length = 167) (k2 : t[2]? = some (.pointer (some ⟨gr,0,none⟩))) (k6 : t[6]? = some (.pointer (some ⟨g,0,none⟩))) (k7 : t[7]? = some (.pointer (some ⟨gq,0,none⟩))) (k11 : t[11]? = some (.pointer (some ⟨ga,0,none⟩)))
  (h : QA W w g gr gq ga wv all st va vw vb q k vo of)
  (hQ : ∀ (t' : List Value) (va' : Value) (w' : World),t'.length = 167 → t'[2]? = some (.pointer (some ⟨gr,0,none⟩)) → t'[6]? = some (.pointer (some ⟨g,0,none⟩)) → t'[7]? = some (.pointer (some ⟨gq,0,none⟩)) → QD W w' g gr gq wv all st va' vw vb { q with aggs:=q.aggs ++ [⟨k,of⟩] } → Code.wp Tryz.prog X Q { tmps:=t'.toArray,defers:=[] } w') :
  Code.wp Tryz.prog (.seq C28 X) Q { tmps:=t.toArray,defers:=[] } w:=by
 have HQ:=hidE hQ
 have H:=hidE h
 have OKW:=hidE okw
 clear hQ h okw
 have a0:=H.out.ba.c 0 (by simp)
 have a1:=H.out.ba.c 1 (by simp)
 have q0:=H.out.qd.bq.c 0 (by simp)
 have lgq:=H.out.qd.bq.lt
 have lga:=H.out.ba.lt
 have l2:=H.out.qd.lg
 have l3:=H.out.qd.lq
 simp only [List.getElem?_cons_zero,List.getElem?_cons_succ] at a0 a1 q0
 obtain ⟨i0,hi,hz0,hz1',hz2'⟩:=infoAgq
 have hsa:=aggs_sl H.out.qd.ag
 obtain ⟨a8,n8,c8,rfl⟩:=sl_shape hsa
 obtain ⟨a9,n9,c9,rfl⟩:=sl_shape H.out.ho.1
 have ba:=below_alloc w (.cells [.int .i64 k,.slice a9 n9 c9].toArray 46)
 have BN:=hidE (blk_alloc w [.int .i64 k,.slice a9 n9 c9] 46)
 have H2:=hidE (qd_call H.out.qd (keptB_of_below ba) (rds_below H.out.qd.ps ba) id)
 have O2:=hidE (optS_kept (ok':=okS st) H.out.ho (keptB_of_below (bad:=fun _ => False) ba) (fun k e9 => e9.elim) id)
 have hzz : (w.alloc (.cells [.int .i64 k,.slice a9 n9 c9].toArray 46)).heap.size = w.heap.size + 1:=by simp
 obtain ⟨ps,hm,hown,hsl,hop⟩:=H2.out.ag
 have HM:=hidE hm
 have OW:=hidE hown
 have HSL:=hidE hsl
 have HOP:=hidE hop
 clear hm hown hsl hop ba hsa
 obtain ⟨f,hf,hi⟩:=listedQ t ht
 have e2:=some_at (hi 2 (by decide)) k2
 have e6:=some_at (hi 6 (by decide)) k6
 have e7:=some_at (hi 7 (by decide)) k7
 have e11:=some_at (hi 11 (by decide)) k11
 rw [e2,e6,e7,e11] at hf
 clear hi ht k2 e2 k6 e6 k7 e7 k11 e11
 subst hf
 unfold Tryz.f13 at h28
 simp [rgn] at h28
 subst h28
 go_wp2_with (first | (refine wpList_buildOneN rfl 22 46 _ rfl [.int .i64 k,.slice a9 n9 c9] 2 rfl i0 _ Tryz.underlying22 hi hz0 hz1' rfl (by omega) (by omega) ?_) | (at_builtin;go_must (refine wpList_append_own_at _ rfl (.tmp 75) (.tmp 77) 22 rfl (g + 1) 46 i0 _ 2 32 Tryz.underlying22 hi hz0 hz1' hz2' rfl (by decide) _ q.aggs.length (ps.flatMap cellsAg) rfl OW.out ⟨w.heap.size,0,none⟩ 1 1 [.int .i64 k,.slice a9 n9 c9] rfl rfl (fun j u hu => by rw [add_at,Nat.zero_add,BN.out.c j (List.getElem?_eq_some_iff.1 hu).1];exact hu) (by simp [Value.oneCell']) (by show _ ≤ 2 ^ 63 - 1;omega) (by omega) (by omega) ?_)))
 intro v' w5 ho5 hg5 hob3 hob2
 obtain ⟨ao',cap',rfl⟩:=owns_shapeE ho5
 have HOW:=hidE ho5
 have HG:=hidE hg5
 have HOB:=hidE hob2
 have NQ:=own_ty OW.out H2.out.tq qty_agg
 have BQ5:=blk_grown H2.out.bq HG.out NQ
 have cy:=BQ5.c 0 (by simp)
 have fy:=BQ5.fz 0
 simp only [List.getElem?_cons_zero] at cy
 have H5:=hidE (qd_app H2.out ⟨k,of⟩ ps HM.out OW.out HSL.out HOP.out HG.out HOW.out O2.out (by rw [hzz];exact HOB.out))
 clear ho5 hg5 hob2 BQ5 NQ a0 a1 q0
 go_wp2_with fail
 exact HQ.out _ _ _ rfl rfl rfl rfl H5.out
theorem fMore (Q : Exit → Act → World → Prop) (C29 : Code) (h29 : rgn 29 (Tryz.f13.body.getD .skip) = some C29) (t : List Value) (g gr gq : Nat) (wv : Value) (all : Ws) (okw : WsOk all) (st : St) (va vw vb : Value) (q : Qy) (W w : World) (ht : t.length = 167) (k2 : t[2]? = some (.pointer (some ⟨gr,0,none⟩))) (k6 : t[6]? = some (.pointer (some ⟨g,0,none⟩))) (k7 : t[7]? = some (.pointer (some ⟨gq,0,none⟩)))
  (h : QD W w g gr gq wv all st va vw vb q)
  (hQ : ∀ (t' : List Value)  (w' : World),t'.length = 167 → t'[2]? = some (.pointer (some ⟨gr,0,none⟩)) → t'[6]? = some (.pointer (some ⟨g,0,none⟩)) → t'[7]? = some (.pointer (some ⟨gq,0,none⟩)) → t'[8]? = some (.bool (takeS wComma st).1) → QD W w' g gr gq wv all (takeS wComma st).2 va vw vb q → Q .normal { tmps:=t'.toArray,defers:=[] } w') :
  Code.wp Tryz.prog C29 Q { tmps:=t.toArray,defers:=[] } w:=by
 have HQ:=hidE hQ
 have H:=hidE h
 have OKW:=hidE okw
 clear hQ h okw
 have TK:=hidE (rs_take g wv all OKW.out wComma (by decide) st w H.out.ps)
 have HO:=hidE (show okS (takeS wComma st).2 = true → okS st = true from okS_take)
 generalize hT : takeS wComma st = T9 at *
 obtain ⟨b9,st9⟩:=T9
 clear hT
 obtain ⟨f,hf,hi⟩:=listedQ t ht
 have e2:=some_at (hi 2 (by decide)) k2
 have e6:=some_at (hi 6 (by decide)) k6
 have e7:=some_at (hi 7 (by decide)) k7
 rw [e2,e6,e7] at hf
 clear hi ht k2 e2 k6 e6 k7 e7
 subst hf
 unfold Tryz.f13 at h29
 simp [rgn] at h29
 subst h29
 go_wp2_with fail
 refine TK.out.mono ?_
 rintro r w1 ⟨rfl,hk,hp⟩
 have H1:=hidE (qd_call H.out hk hp HO.out)
 clear hk hp TK H
 go_wp2_with fail
 exact HQ.out _  _ rfl rfl rfl rfl rfl H1.out
theorem kind_fail (st : St) : (if (kindS st).1 = 0 then failS (kindS st).2 else (kindS st).2) = (aggKS st).2 ∧ (kindS st).1 = (aggKS st).1:=by
 rw [aggKS_kind]
 by_cases h : (kindS st).1 = 0
 ·rw [if_pos h,if_pos h]
  exact ⟨rfl,h⟩
 ·rw [if_neg h,if_neg h]
  exact ⟨rfl,rfl⟩
def bmeas (v : Value) (m : Nat) : Nat:=match v with
 | .bool true => m
 | _ => 0
theorem rm_step {w1 w3 : World} {g : Nat} {wv : Value} {all : Ws} {st : St} (h1 : RDS w1 g wv all st) (h3 : RDS w3 g wv all (takeS wComma (aggS st).2).2) (hb : (takeS wComma (aggS st).2).1 = true) : rmeas w3 g < rmeas w1 g:=by
 have hw:=wl_take hb
 have ha:=wl_agg st
 obtain ⟨n1,h1⟩:=h1
 obtain ⟨n3,h3⟩:=h3
 cases st with
 | error c => rw [aggS_err] at hb;simp [takeS] at hb
 | ok ws =>
  have m1:=rmeas_ok h1
  have l1:=rd_len h1
  have e1 : wlS (.ok ws) = ws.length:=rfl
  cases h9 : (takeS wComma (aggS (.ok ws)).2).2 with
  | error c =>
   rw [h9] at h3
   rw [rmeas_err h3.2 (by have:=h3.1;omega)]
   omega
  | ok r =>
   rw [h9] at h3 hw
   have m3:=rmeas_ok h3
   have l3:=rd_len h3
   have e3 : wlS (.ok r) = r.length:=rfl
   omega
theorem fHead (Q : Exit → Act → World → Prop) (C8 : Code) (h8 : rgn 8 (Tryz.f13.body.getD .skip) = some C8) (t : List Value) (g gr gq : Nat) (b : Bool) (w : World) (ht : t.length = 167) (k2 : t[2]? = some (.pointer (some ⟨gr,0,none⟩))) (k6 : t[6]? = some (.pointer (some ⟨g,0,none⟩))) (k7 : t[7]? = some (.pointer (some ⟨gq,0,none⟩))) (k8 : t[8]? = some (.bool b))
  (hF : b = false → ∀ (t' : List Value),t'.length = 167 → t'[2]? = some (.pointer (some ⟨gr,0,none⟩)) → t'[6]? = some (.pointer (some ⟨g,0,none⟩)) → t'[7]? = some (.pointer (some ⟨gq,0,none⟩)) → Q (.exit 0) { tmps:=t'.toArray,defers:=[] } w)
  (hT : b = true → ∀ (t' : List Value),t'.length = 167 → t'[2]? = some (.pointer (some ⟨gr,0,none⟩)) → t'[6]? = some (.pointer (some ⟨g,0,none⟩)) → t'[7]? = some (.pointer (some ⟨gq,0,none⟩)) → Q .normal { tmps:=t'.toArray,defers:=[] } w) :
  Code.wp Tryz.prog (.seq C8 (.cond (.tmp 30) .skip (.exit 0))) Q { tmps:=t.toArray,defers:=[] } w:=by
 obtain ⟨f,hf,hi⟩:=listedQ t ht
 have e2:=some_at (hi 2 (by decide)) k2
 have e6:=some_at (hi 6 (by decide)) k6
 have e7:=some_at (hi 7 (by decide)) k7
 have e8:=some_at (hi 8 (by decide)) k8
 rw [e2,e6,e7,e8] at hf
 clear hi ht k2 e2 k6 e6 k7 e7 k8 e8
 subst hf
 unfold Tryz.f13 at h8
 simp [rgn] at h8
 subst h8
 cases b with
 | false =>
  have HF:=hidE (hF rfl)
  clear hF hT
  go_wp2_with fail
  exact HF.out _ rfl rfl rfl rfl
 | true =>
  have HT:=hidE (hT rfl)
  clear hF hT
  go_wp2_with fail
  exact HT.out _ rfl rfl rfl rfl
theorem fLoop (Q : Exit → Act → World → Prop) (C8 : Code) (h8 : stm 8 (Tryz.f13.body.getD .skip) = some C8) (t : List Value) (g gr gq : Nat) (wv : Value) (all : Ws) (okw : WsOk all) (st : St) (va vw vb : Value) (q : Qy) (W w : World) (n0 : Nat) (hq0 : q.aggs = []) (hn0 : wlS st < n0) (hl0 : wlS st ≤ 150) (ht : t.length = 167) (k2 : t[2]? = some (.pointer (some ⟨gr,0,none⟩))) (k6 : t[6]? = some (.pointer (some ⟨g,0,none⟩))) (k7 : t[7]? = some (.pointer (some ⟨gq,0,none⟩))) (k8 : t[8]? = some (.bool true))
  (h : QD W w g gr gq wv all st va vw vb q)
  (hQ : ∀ (t' : List Value) (va' : Value) (w' : World),t'.length = 167 → t'[2]? = some (.pointer (some ⟨gr,0,none⟩)) → t'[6]? = some (.pointer (some ⟨g,0,none⟩)) → t'[7]? = some (.pointer (some ⟨gq,0,none⟩)) → QD W w' g gr gq wv all (aggsS n0 [(aggS st).1] (aggS st).2).2 va' vw vb { q with aggs:=(aggsS n0 [(aggS st).1] (aggS st).2).1 } → Q .normal { tmps:=t'.toArray,defers:=[] } w') :
  Code.wp Tryz.prog C8 Q { tmps:=t.toArray,defers:=[] } w:=by
 have HQ:=hidE hQ
 have OKW:=hidE okw
 clear hQ okw
 unfold Tryz.f13 at h8
 simp [stm,lead] at h8
 subst h8
 obtain ⟨R0,hR0⟩ : ∃ R0,aggsS n0 [(aggS st).1] (aggS st).2 = R0:=⟨_,rfl⟩
 refine wp_block (wp_loop (fun a wr => ∃ (t : List Value) (b : Bool) (k : Nat) (l : List AgQ) (st1 : St) (va1 : Value),a = { tmps:=t.toArray,defers:=[] } ∧ t.length = 167 ∧ (t[2]? = some (.pointer (some ⟨gr,0,none⟩)) ∧ t[6]? = some (.pointer (some ⟨g,0,none⟩)) ∧ t[7]? = some (.pointer (some ⟨gq,0,none⟩))) ∧ t[8]? = some (.bool b) ∧ QD W wr g gr gq wv all st1 va1 vw vb { q with aggs:=l } ∧ ((b = false ∧ (l,st1) = R0) ∨ (b = true ∧ wlS st1 < k ∧ l.length + wlS st1 ≤ 150 ∧ aggsS k (l ++ [(aggS st1).1]) (aggS st1).2 = R0))) (fun a wr => bmeas (a.tmps.getD 8 undef) (1 + rmeas wr g)) ?_ ?_)
 ·exact ⟨t,true,n0,q.aggs,st,va,rfl,ht,⟨k2,k6,k7⟩,k8,h,.inr ⟨rfl,hn0,by rw [hq0];simp;omega,by rw [hq0];exact hR0⟩⟩
 ·rintro a wr ⟨t,b,k,l,st1,va1,rfl,ht,⟨k2,k6,k7⟩,k8,hq,hor⟩
  refine wp_seq (fHead _ _ (by kernel_rfl)  t g gr gq b wr ht k2 k6 k7 k8 ?_ ?_)
  ·intro hb t' ht' a2 a6 a7
   refine then_exit (then_exit (in_exit ?_))
   rcases hor with ⟨-,e9⟩ | ⟨e9,-⟩
   ·have e7 : l = (aggsS n0 [(aggS st).1] (aggS st).2).1:=by rw [hR0,← e9]
    have e8 : st1 = (aggsS n0 [(aggS st).1] (aggS st).2).2:=by rw [hR0,← e9]
    rw [e7,e8] at hq
    exact HQ.out t' va1 wr ht' a2 a6 a7 hq
   ·rw [hb] at e9
    cases e9
  ·intro hb t1 ht1 a2 a6 a7
   obtain ⟨hk,hl,hR⟩ : wlS st1 < k ∧ l.length + wlS st1 ≤ 150 ∧ aggsS k (l ++ [(aggS st1).1]) (aggS st1).2 = R0:=by
    rcases hor with ⟨e9,-⟩ | ⟨-,e9⟩
    ·rw [hb] at e9;cases e9
    ·exact e9
   obtain ⟨k9,rfl⟩ : ∃ k9,k = k9 + 1:=⟨k - 1,by omega⟩
   refine then_normal (wp_block ?_)
   refine fNames _ _ _ _ (by kernel_rfl) _ (by kernel_rfl) _ (by kernel_rfl) _ (by kernel_rfl)  t1 g gr gq wv all OKW.out st1 va1 vw vb { q with aggs:=l } W wr ht1 a2 a6 a7 hq ?_
   intro t2 ga gn gk w2 ht2 b2 b6 b7 b9 b10 b11 b12 h2
   refine fKindL _ _ (by kernel_rfl)  t2 g gr gq ga gn gk wv all OKW.out st1 va1 vw vb { q with aggs:=l } 0 W w2 rfl ht2 b2 b6 b7 b9 b10 b11 b12 h2 ?_
   intro t3 w3 ht3 c2 c6 c7 c11 h3
   refine then_normal ?_
   refine fFail _ _ _ (by kernel_rfl) _ (by kernel_rfl)  t3 g gr gq ga wv all OKW.out (kindS st1).2 va1 vw vb { q with aggs:=l } (kindS st1).1 _ _ W w3 ht3 c2 c6 c7 c11 h3.qa ?_
   intro t4 w4 ht4 d2 d6 d7 d11 h4
   rw [(kind_fail st1).1,(kind_fail st1).2] at h4
   refine fMustA20 _ _ _ (by kernel_rfl)  t4 g gr gq ga wv all OKW.out (aggKS st1).2 va1 vw vb { q with aggs:=l } (aggKS st1).1 _ _ W w4 ht4 d2 d6 d7 d11 h4 ?_
   intro t5 w5 ht5 e2 e6 e7 e11 h5
   refine fStar _ _ _ (by kernel_rfl) _ (by kernel_rfl) _ (by kernel_rfl) _ (by kernel_rfl) _ (by kernel_rfl) _ (by kernel_rfl)  t5 g gr gq ga wv all OKW.out (mustS wOpen (aggKS st1).2) va1 vw vb { q with aggs:=l } (aggKS st1).1 _ _ W w5 rfl rfl ht5 e2 e6 e7 e11 h5 ?_
   intro t6 vo w6 ht6 f2 f6 f7 f11 h6
   refine fMustA27 _ _ _ (by kernel_rfl)  t6 g gr gq ga wv all OKW.out _ va1 vw vb { q with aggs:=l } _ vo _ W w6 ht6 f2 f6 f7 f11 h6 ?_
   intro t7 w7 ht7 g2 g6 g7 g11 h7
   have hab:=aggS_body st1
   refine fApp _ _ _ (by kernel_rfl)  t7 g gr gq ga wv all OKW.out _ va1 vw vb { q with aggs:=l } _ vo _ W w7 (by show l.length ≤ 200;omega) ht7 g2 g6 g7 g11 h7 ?_
   intro t8 va2 w8 ht8 i2 i6 i7 h8
   have h8' : QD W w8 g gr gq wv all (aggS st1).2 va2 vw vb { q with aggs:=l ++ [(aggS st1).1] }:=by rw [hab];exact h8
   refine fMore _ _ (by kernel_rfl)  t8 g gr gq wv all OKW.out (aggS st1).2 va2 vw vb { q with aggs:=l ++ [(aggS st1).1] } W w8 ht8 i2 i6 i7 h8' ?_
   intro t9 w9 ht9 j2 j6 j7 j8 h9
   refine in_normal ?_
   have hwa:=wl_agg st1
   cases hb2 : (takeS wComma (aggS st1).2).1 with
   | false =>
    rw [hb2] at j8
    have e1 : aggsS (k9 + 1) (l ++ [(aggS st1).1]) (aggS st1).2 = (l ++ [(aggS st1).1],(aggS st1).2):=by simp only [aggsS,hb2];rfl
    rw [take_no hb2] at h9
    refine ⟨⟨t9,false,k9,_,_,va2,rfl,ht9,⟨j2,j6,j7⟩,j8,h9,.inl ⟨rfl,by rw [← e1];exact hR⟩⟩,?_⟩
    show bmeas ((t9.toArray : Array Value).getD 8 undef) _ < bmeas ((t.toArray : Array Value).getD 8 undef) _
    rw [tmp_at j8,tmp_at k8,hb]
    show 0 < 1 + rmeas wr g
    omega
   | true =>
    rw [hb2] at j8
    have hwt:=wl_take hb2
    have e1 : aggsS (k9 + 1) (l ++ [(aggS st1).1]) (aggS st1).2 = aggsS k9 (l ++ [(aggS st1).1] ++ [(aggS (takeS wComma (aggS st1).2).2).1]) (aggS (takeS wComma (aggS st1).2).2).2:=by simp only [aggsS,if_pos hb2]
    refine ⟨⟨t9,true,k9,_,_,va2,rfl,ht9,⟨j2,j6,j7⟩,j8,h9,.inr ⟨rfl,by omega,by simp;omega,by rw [← e1];exact hR⟩⟩,?_⟩
    have hm:=rm_step hq.ps h9.ps hb2
    show bmeas ((t9.toArray : Array Value).getD 8 undef) _ < bmeas ((t.toArray : Array Value).getD 8 undef) _
    rw [tmp_at j8,tmp_at k8,hb]
    simp only [bmeas]
    omega
end Go.Proofs.YteaanpdckkmjoaaGreatDoor

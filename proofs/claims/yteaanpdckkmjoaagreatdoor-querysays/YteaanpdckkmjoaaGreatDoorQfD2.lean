/- The law QueryOf's names, on, over this seat's translation. Conditions: as named. -/
import Derived.Test.YteaanpdckkmjoaaGreatDoorQfCJ
set_option linter.unusedVariables false
set_option linter.unusedSimpArgs false
set_option maxRecDepth 100000
set_option maxHeartbeats 8000000
namespace Go.Proofs.YteaanpdckkmjoaaGreatDoor
open Go.ChangeShapes Go.WideShapes Go.ChangeAt Go.RowKit
theorem fKind2 (Q : Exit → Act → World → Prop) (C13 B15 C14 : Code) (h13 : rgn 13 (Tryz.f13.body.getD .skip) = some C13) (h15 : stm 15 (Tryz.f13.body.getD .skip) = some B15) (h14 : rgn 14 (Tryz.f13.body.getD .skip) = some C14) (t : List Value) (g gr gq ga gn gk : Nat) (wv : Value) (all : Ws) (okw : WsOk all) (st : St) (va vw vb : Value) (q : Qy) (k : Int) (W w : World) (hk0 : k = 0) (ht : t.length = 167) (k2 : t[2]? = some (.pointer (some ⟨gr,0,none⟩))) (k6 : t[6]? = some (.pointer (some ⟨g,0,none⟩))) (k7 : t[7]? = some (.pointer (some ⟨gq,0,none⟩))) (k9 : t[9]? = some (.slice (some ⟨gn,0,none⟩) 4 4)) (k10 : t[10]? = some (.slice (some ⟨gk,0,none⟩) 4 4)) (k11 : t[11]? = some (.pointer (some ⟨ga,0,none⟩))) (k12 : t[12]? = some (.int .i64 ((2 : Nat) : Int))) (h : QN W w g gr gq ga gn gk wv all st va vw vb q k)
  (hF : (takeS wMin st).1 = false → ∀ (t' : List Value) (w' : World),t'.length = 167 → t'[2]? = some (.pointer (some ⟨gr,0,none⟩)) → t'[6]? = some (.pointer (some ⟨g,0,none⟩)) → t'[7]? = some (.pointer (some ⟨gq,0,none⟩)) → t'[9]? = some (.slice (some ⟨gn,0,none⟩) 4 4) → t'[10]? = some (.slice (some ⟨gk,0,none⟩) 4 4) → t'[11]? = some (.pointer (some ⟨ga,0,none⟩)) → t'[12]? = some (.int .i64 ((3 : Nat) : Int)) → QN W w' g gr gq ga gn gk wv all st va vw vb q k → Q .normal { tmps:=t'.toArray,defers:=[] } w')
  (hT : (takeS wMin st).1 = true → ∀ (t' : List Value) (w' : World),t'.length = 167 → t'[2]? = some (.pointer (some ⟨gr,0,none⟩)) → t'[6]? = some (.pointer (some ⟨g,0,none⟩)) → t'[7]? = some (.pointer (some ⟨gq,0,none⟩)) → t'[9]? = some (.slice (some ⟨gn,0,none⟩) 4 4) → t'[10]? = some (.slice (some ⟨gk,0,none⟩) 4 4) → t'[11]? = some (.pointer (some ⟨ga,0,none⟩)) → t'[12]? = some (.int .i64 ((3 : Nat) : Int)) → QN W w' g gr gq ga gn gk wv all (takeS wMin st).2 va vw vb q 4 → Q .normal { tmps:=t'.toArray,defers:=[] } w') :
  Code.wp Tryz.prog (.seq (.seq C13 (.cond (.tmp 40) .skip (.exit 2))) (.seq B15 C14)) Q { tmps:=t.toArray,defers:=[] } w:=by
 have H:=hidE h
 have TK:=rs_take g wv all okw wMin (by decide) st w H.out.qa.qd.ps
 have a0:=H.out.qa.ba.c 0 (by simp)
 have n0:=H.out.bn.c 2 (by simp)
 simp only [List.getElem?_cons_zero,List.getElem?_cons_succ] at a0 n0
 subst hk0
 clear h okw
 obtain ⟨f,hf,hi⟩:=listedQ t ht
 have e2:=some_at (hi 2 (by decide)) k2
 have e6:=some_at (hi 6 (by decide)) k6
 have e7:=some_at (hi 7 (by decide)) k7
 have e9:=some_at (hi 9 (by decide)) k9
 have e10:=some_at (hi 10 (by decide)) k10
 have e11:=some_at (hi 11 (by decide)) k11
 have e12:=some_at (hi 12 (by decide)) k12
 rw [e2,e6,e7,e9,e10,e11,e12] at hf
 clear hi ht k2 e2 k6 e6 k7 e7 k9 e9 k10 e10 k11 e11 k12 e12
 subst hf
 unfold Tryz.f13 at h13
 simp [rgn] at h13
 subst h13
 unfold Tryz.f13 at h15
 simp [stm,lead] at h15
 subst h15
 unfold Tryz.f13 at h14
 simp [rgn] at h14
 subst h14
 cases hb : (takeS wMin st).1 with
 | false =>
  rw [hb,take_no hb] at TK
  have TKH:=hidE TK
  have HF:=hidE (hF hb)
  clear TK hb hF hT
  go_wp2_with fail
  refine TKH.out.mono ?_
  rintro r w1 ⟨rfl,hk,hp⟩
  have H1:=hidE (qn_call H.out hk hp id)
  clear hk hp TKH H a0 n0
  go_wp2_with fail
  exact HF.out _ _ rfl rfl rfl rfl rfl rfl rfl rfl H1.out
 | true =>
  rw [hb] at TK
  have TKH:=hidE TK
  have HT:=hidE (hT hb)
  clear TK hb hF hT
  go_wp2_with fail
  refine TKH.out.mono ?_
  rintro r w1 ⟨rfl,hk,hp⟩
  have H1:=qn_call H.out hk hp okS_take
  have x0:=H1.qa.ba.c 0 (by simp)
  have f0:=H1.qa.ba.fz 0
  have m0:=H1.bk.c 2 (by simp)
  simp only [List.getElem?_cons_zero,List.getElem?_cons_succ] at x0 m0
  have H2:=hidE (qn_store H1 4)
  clear hk hp TKH H a0 n0 H1
  go_wp2_with fail
  exact HT.out _ _ rfl rfl rfl rfl rfl rfl rfl rfl H2.out
theorem fKind3 (Q : Exit → Act → World → Prop) (C13 B15 C14 : Code) (h13 : rgn 13 (Tryz.f13.body.getD .skip) = some C13) (h15 : stm 15 (Tryz.f13.body.getD .skip) = some B15) (h14 : rgn 14 (Tryz.f13.body.getD .skip) = some C14) (t : List Value) (g gr gq ga gn gk : Nat) (wv : Value) (all : Ws) (okw : WsOk all) (st : St) (va vw vb : Value) (q : Qy) (k : Int) (W w : World) (hk0 : k = 0) (ht : t.length = 167) (k2 : t[2]? = some (.pointer (some ⟨gr,0,none⟩))) (k6 : t[6]? = some (.pointer (some ⟨g,0,none⟩))) (k7 : t[7]? = some (.pointer (some ⟨gq,0,none⟩))) (k9 : t[9]? = some (.slice (some ⟨gn,0,none⟩) 4 4)) (k10 : t[10]? = some (.slice (some ⟨gk,0,none⟩) 4 4)) (k11 : t[11]? = some (.pointer (some ⟨ga,0,none⟩))) (k12 : t[12]? = some (.int .i64 ((3 : Nat) : Int))) (h : QN W w g gr gq ga gn gk wv all st va vw vb q k)
  (hF : (takeS wMax st).1 = false → ∀ (t' : List Value) (w' : World),t'.length = 167 → t'[2]? = some (.pointer (some ⟨gr,0,none⟩)) → t'[6]? = some (.pointer (some ⟨g,0,none⟩)) → t'[7]? = some (.pointer (some ⟨gq,0,none⟩)) → t'[9]? = some (.slice (some ⟨gn,0,none⟩) 4 4) → t'[10]? = some (.slice (some ⟨gk,0,none⟩) 4 4) → t'[11]? = some (.pointer (some ⟨ga,0,none⟩)) → t'[12]? = some (.int .i64 ((4 : Nat) : Int)) → QN W w' g gr gq ga gn gk wv all st va vw vb q k → Q .normal { tmps:=t'.toArray,defers:=[] } w')
  (hT : (takeS wMax st).1 = true → ∀ (t' : List Value) (w' : World),t'.length = 167 → t'[2]? = some (.pointer (some ⟨gr,0,none⟩)) → t'[6]? = some (.pointer (some ⟨g,0,none⟩)) → t'[7]? = some (.pointer (some ⟨gq,0,none⟩)) → t'[9]? = some (.slice (some ⟨gn,0,none⟩) 4 4) → t'[10]? = some (.slice (some ⟨gk,0,none⟩) 4 4) → t'[11]? = some (.pointer (some ⟨ga,0,none⟩)) → t'[12]? = some (.int .i64 ((4 : Nat) : Int)) → QN W w' g gr gq ga gn gk wv all (takeS wMax st).2 va vw vb q 5 → Q .normal { tmps:=t'.toArray,defers:=[] } w') :
  Code.wp Tryz.prog (.seq (.seq C13 (.cond (.tmp 40) .skip (.exit 2))) (.seq B15 C14)) Q { tmps:=t.toArray,defers:=[] } w:=by
 have H:=hidE h
 have TK:=rs_take g wv all okw wMax (by decide) st w H.out.qa.qd.ps
 have a0:=H.out.qa.ba.c 0 (by simp)
 have n0:=H.out.bn.c 3 (by simp)
 simp only [List.getElem?_cons_zero,List.getElem?_cons_succ] at a0 n0
 subst hk0
 clear h okw
 obtain ⟨f,hf,hi⟩:=listedQ t ht
 have e2:=some_at (hi 2 (by decide)) k2
 have e6:=some_at (hi 6 (by decide)) k6
 have e7:=some_at (hi 7 (by decide)) k7
 have e9:=some_at (hi 9 (by decide)) k9
 have e10:=some_at (hi 10 (by decide)) k10
 have e11:=some_at (hi 11 (by decide)) k11
 have e12:=some_at (hi 12 (by decide)) k12
 rw [e2,e6,e7,e9,e10,e11,e12] at hf
 clear hi ht k2 e2 k6 e6 k7 e7 k9 e9 k10 e10 k11 e11 k12 e12
 subst hf
 unfold Tryz.f13 at h13
 simp [rgn] at h13
 subst h13
 unfold Tryz.f13 at h15
 simp [stm,lead] at h15
 subst h15
 unfold Tryz.f13 at h14
 simp [rgn] at h14
 subst h14
 cases hb : (takeS wMax st).1 with
 | false =>
  rw [hb,take_no hb] at TK
  have TKH:=hidE TK
  have HF:=hidE (hF hb)
  clear TK hb hF hT
  go_wp2_with fail
  refine TKH.out.mono ?_
  rintro r w1 ⟨rfl,hk,hp⟩
  have H1:=hidE (qn_call H.out hk hp id)
  clear hk hp TKH H a0 n0
  go_wp2_with fail
  exact HF.out _ _ rfl rfl rfl rfl rfl rfl rfl rfl H1.out
 | true =>
  rw [hb] at TK
  have TKH:=hidE TK
  have HT:=hidE (hT hb)
  clear TK hb hF hT
  go_wp2_with fail
  refine TKH.out.mono ?_
  rintro r w1 ⟨rfl,hk,hp⟩
  have H1:=qn_call H.out hk hp okS_take
  have x0:=H1.qa.ba.c 0 (by simp)
  have f0:=H1.qa.ba.fz 0
  have m0:=H1.bk.c 3 (by simp)
  simp only [List.getElem?_cons_zero,List.getElem?_cons_succ] at x0 m0
  have H2:=hidE (qn_store H1 5)
  clear hk hp TKH H a0 n0 H1
  go_wp2_with fail
  exact HT.out _ _ rfl rfl rfl rfl rfl rfl rfl rfl H2.out
end Go.Proofs.YteaanpdckkmjoaaGreatDoor

/- The law FoldSays, over this seat's translation. Conditions: none. -/
import Derived.Test.YtepfpmagppckeaaFold4
import Derived.Test.YtepfpmagppckeaaRowOf2
import Derived.Test.YtepfpmagppckeaaEvC
import Derived.Test.YtepfpmagppckeaaRefEF
import Derived.Test.YtepfpmagppckeaaRefTC
namespace Go.Proofs.Ytepfpmagppckeaa
open Go.ChangeShapes Go.WideShapes Go.ChangeAt Go.RowKit
set_option linter.unusedVariables false
set_option linter.unusedSimpArgs false
attribute [local go_sem ↓] eql_value neq_value

theorem okN_pos (n : Nd) : 0 ≤ okN n := by
  unfold okN
  repeat' split
  all_goals decide
theorem chkF_pos : ∀ (l : List Nd) (bs : List Nat), 0 ≤ (chkF l bs).1
  | [], bs => by simp [chkF]
  | n :: l, bs => by
    unfold chkF
    split
    · exact okN_pos n
    · split
      · show (0 : Int) ≤ 3; decide
      · exact chkF_pos l _
theorem chkE_pos (l : List Nd) : 0 ≤ chkE l := by
  unfold chkE
  repeat' split
  all_goals first | exact chkF_pos l [] | decide

theorem ev7 {w : World} {g off i : Nat} {e : Ev} (h : ∀ j, j < 7 → w.cell? ⟨g, off + (i * 7 + j), none⟩ = (cellsE e)[j]?) :
    w.cell? ⟨g, off + i * 7, none⟩ = some (.int .i64 e.t) ∧ w.cell? ⟨g, off + i * 7 + 1, none⟩ = some (.int .i64 e.k1) ∧ w.cell? ⟨g, off + i * 7 + 2, none⟩ = some (.int .i64 e.k2) ∧ w.cell? ⟨g, off + i * 7 + 3, none⟩ = some (.int .i64 e.a1) ∧ w.cell? ⟨g, off + i * 7 + 4, none⟩ = some (.int .i64 e.a2) ∧ w.cell? ⟨g, off + i * 7 + 5, none⟩ = some (.int .i64 e.b1) ∧ w.cell? ⟨g, off + i * 7 + 6, none⟩ = some (.int .i64 e.b2) :=
  ⟨h 0 (by omega), h 1 (by omega), h 2 (by omega), h 3 (by omega), h 4 (by omega), h 5 (by omega), h 6 (by omega)⟩

def mul23 : Ex := .two 8 (.cst 1 2) (.cst 1 3)
theorem mul23_wf : Wf mul23 := ⟨rfl, rfl, rfl⟩
theorem mul23_fold : foldT mul23 = .cst 1 6 := rfl

theorem rowG_mul (w : World) : RowT (w.alloc (.cells #[.int .i64 1, .int .i64 0, .int .i64 0, .int .i64 0, .int .i64 1, .int .i64 2, .int .i64 1, .int .i64 0, .int .i64 0, .int .i64 0, .int .i64 1, .int .i64 3, .int .i64 8, .int .i64 0, .int .i64 1, .int .i64 0, .int .i64 0, .int .i64 0] 50)) (.slice (some ⟨w.heap.size, 0, none⟩) 3 3) mul23 := by
  have h := World.ownsRow_lit (base := 0) (size := 6) (e := 50) w #[.int .i64 1, .int .i64 0, .int .i64 0, .int .i64 0, .int .i64 1, .int .i64 2, .int .i64 1, .int .i64 0, .int .i64 0, .int .i64 0, .int .i64 1, .int .i64 3, .int .i64 8, .int .i64 0, .int .i64 1, .int .i64 0, .int .i64 0, .int .i64 0] 3 (Nat.zero_le _) (by decide) rfl
  exact rowG_of_owns h

set_option maxRecDepth 100000 in
theorem folds_true (w : World) : Calls Try.prog 30 #[] w fun e w' => e = .returned (.bool true) ∧ Below w.heap.size w w' := by
  have HW : Hid (Below w.heap.size w (w.alloc (.cells #[.int .i64 1, .int .i64 0, .int .i64 0, .int .i64 0, .int .i64 1, .int .i64 2, .int .i64 1, .int .i64 0, .int .i64 0, .int .i64 0, .int .i64 1, .int .i64 3, .int .i64 8, .int .i64 0, .int .i64 1, .int .i64 0, .int .i64 0, .int .i64 0] 50))) := (Below.refl _ _).alloc (Nat.le_refl _) _
  have FA := hidE (Fold_any mul23 _ _ mul23_wf (by decide +kernel) (rowG_mul w))
  rw [mul23_fold] at FA
  go_enter Try.func30, Try.ntmps30
  go_wp2_with fail
  refine FA.out.mono ?_
  rintro e w1 ⟨u1, rfl, hr, hb⟩
  obtain ⟨ao, cap, hu⟩ := rowG_shape hr
  have e1 : (flat (Ex.cst 1 6)).length = 1 := rfl
  rw [e1] at hu
  subst hu
  obtain ⟨g, off, rfl, q1, q2⟩ := const_head hr
  obtain ⟨x4, x5⟩ := const_cells hr w1 (Below.refl _ _)
  unfold maxLen at q2
  have HB := hidE (HW.out.trans (hb.mono HW.out.size))
  clear hr hb
  go_wp2_with fail
  go_ret
  exact ⟨rfl, HB.out⟩

theorem fine_kind {k n : Int} (h : fineV (k, n) = true) : k = 1 ∨ k = 0 := by
  unfold fineV at h
  simp only [Bool.and_eq_true, Bool.not_eq_true', decide_eq_true_eq] at h
  have h1 := of_decide_eq_true h.1.1.1
  have h2 := h.1.1.2
  simp at h2
  omega
theorem may_kinds {t k1 k2 a1 a2 b1 b2 : Int} (h : mayB t k1 k2 a1 a2 b1 b2 = true) : ∀ n : Int, (nth (evE t k1 k2 a1 a2 b1 b2) n).1 = 1 ∨ (nth (evE t k1 k2 a1 a2 b1 b2) n).1 = 0 := by
  unfold mayB at h
  simp only [Bool.and_eq_true] at h
  obtain ⟨⟨⟨⟨hk, ha⟩, hb⟩, -⟩, -⟩ := h
  intro n
  unfold nth
  split
  · exact .inr rfl
  · rename_i h9
    have hl : (evE t k1 k2 a1 a2 b1 b2).length = 4 := rfl
    rw [hl] at h9
    rcases (by omega : n.toNat = 0 ∨ n.toNat = 1 ∨ n.toNat = 2 ∨ n.toNat = 3) with e | e | e | e <;> rw [e]
    · exact numV_kind t
    · exact fine_kind hk
    · exact fine_kind ha
    · exact fine_kind hb

set_option maxRecDepth 100000 in
set_option maxHeartbeats 2000000 in
theorem foldSays_walk (l : List Nd) (es : List Ev) (u v : Value) (w : World) (hu : RowG w u 6 l.length (rowN l)) (hv : RowG w v 7 es.length (rowOf cellsE es)) (hl : l.length ≤ maxLen) (he : es.length ≤ maxLen) :
    Calls Try.prog 5 #[u, v] w fun e w' => e = .returned (.bool true) ∧ Below w.heap.size w w' := by
  obtain ⟨ao, cap, rfl⟩ := rowG_shape hu
  obtain ⟨ev, capv, rfl⟩ := rowG_shape hv
  have LI := hidE (fun w => light_any l.length ao cap w hl)
  have HU := hidE hu
  have HV := hidE hv
  clear hu hv
  unfold maxLen at hl he
  go_enter Try.func5, Try.ntmps5
  go_wp2_with fail
  refine (folds_true _).mono ?_
  rintro e w1 ⟨rfl, hb⟩
  have HB := hidE hb
  clear hb
  by_cases c1 : l.length ≤ 50
  case neg =>
    rw [show decide (l.length ≤ 50) = false from by simp; omega] at LI
    go_wp2_with fail
    refine (LI.out _).mono ?_
    rintro e w2 ⟨rfl, rfl⟩
    go_wp2_with fail
    go_ret
    exact ⟨rfl, HB.out⟩
  rw [show decide (l.length ≤ 50) = true from by simp [c1]] at LI
  go_wp2_with fail
  refine (LI.out _).mono ?_
  rintro e w2 ⟨rfl, rfl⟩
  by_cases c2 : es.length ≤ 20
  case neg =>
    have d2 : decide (20 < (es.length : Int)) = true := by simp; omega
    go_wp2_with fail
    go_ret
    exact ⟨rfl, HB.out⟩
  have d2 : decide (20 < (es.length : Int)) = false := by simp; omega
  have EF := hidE (fun l u w1 hl h => exprFault_any l u w1 hl h)
  go_wp2_with fail
  refine (EF.out l _ _ (by omega) (rowG_below HU.out HB.out)).mono ?_
  rintro e w3 ⟨rfl, hb⟩
  have HB := nxt HB hb
  clear hb LI
  by_cases c3 : 0 < chkE l
  · have d3 : decide (0 < chkE l) = true := by simp [c3]
    go_wp2_with fail
    go_ret
    exact ⟨rfl, HB.out⟩
  have d3 : decide (0 < chkE l) = false := by simp; omega
  have hc0 : chkE l = 0 := by
    have : 0 ≤ chkE l := chkE_pos l
    omega
  obtain ⟨t, hw, rfl, h40⟩ := chk_flat hc0
  obtain ⟨bs, hg, hbs⟩ := flat_good t hw
  obtain ⟨bf, hgf, hbf⟩ := flat_good (foldT t) (foldT_wf t hw)
  have pt := flat_pos t
  have pf := flat_pos (foldT t)
  have lf := foldT_len t
  have FA := hidE (fun u w1 (h : RowT w1 u t) => Fold_any t u w1 hw h40 h)
  have TL := hidE (fun u w1 (h : RowT w1 u t) => rtype_any (flat t) bs u w1 (by omega) pt hg (by rw [List.getD_eq_getElem?_getD, hbs]; rfl) h)
  have TM := hidE (fun u w1 (h : RowT w1 u (foldT t)) => rtype_any (flat (foldT t)) bf u w1 (by omega) pf hgf (by rw [List.getD_eq_getElem?_getD, hbf]; rfl) h)
  rw [ty_flat t hw] at TL
  rw [ty_flat (foldT t) (foldT_wf t hw)] at TM
  have TT : Hid ((tyP (tyT t)).2 = 0 → (tyP (tyT (foldT t))).2 = 0) := fun h => by
    rcases ht : tyT t with _ | k
    · rw [ht] at h
      cases h
    · rcases foldT_ty t k hw ht with e | e <;> rw [e] <;> rfl
  have T3 : Hid ((tyP (tyT t)).2 = 0 ∨ (tyP (tyT t)).2 = 3) := by
    rcases tyT t with _ | k
    · exact .inr rfl
    · exact .inl rfl
  have EL := hidE (fun (e : Ev) (hm : mayB e.t e.k1 e.k2 e.a1 e.a2 e.b1 e.b2 = true) u w1 (h : RowT w1 u t) => reval_any (flat t) bs u e.t e.k1 e.k2 e.a1 e.a2 e.b1 e.b2 w1 (by omega) pt hg (may_ok hm) h)
  have EM := hidE (fun (e : Ev) (hm : mayB e.t e.k1 e.k2 e.a1 e.a2 e.b1 e.b2 = true) u w1 (h : RowT w1 u (foldT t)) => (by
    have h9 := reval_any (flat (foldT t)) bf u e.t e.k1 e.k2 e.a1 e.a2 e.b1 e.b2 w1 (by omega) pf hgf (may_ok hm) h
    rw [ev_flat opV _ (foldT t) (foldT_wf t hw), foldT_ev (may_ok hm) (may_kinds hm) t hw, ← ev_flat opV _ t hw] at h9
    exact h9 : Calls Try.prog 25 #[u, aggE e.t e.k1 e.k2 e.a1 e.a2 e.b1 e.b2] w1 fun ex w' => ex = .returned (.agg #[.int .i64 (evL opV (evE e.t e.k1 e.k2 e.a1 e.a2 e.b1 e.b2) (flat t)).1, .int .i64 (evL opV (evE e.t e.k1 e.k2 e.a1 e.a2 e.b1 e.b2) (flat t)).2]) ∧ Below w1.heap.size w1 w'))
  have CM : Hid (chkE (flat (foldT t)) = 0) := flat_chk (foldT_wf t hw) (by omega)
  have EF2 := hidE (fun u w1 (h : RowT w1 u (foldT t)) => EF.out (flat (foldT t)) u w1 (by omega) h)
  rw [CM.out] at EF2
  have dl : decide (((flat t).length : Int) < ((flat (foldT t)).length : Int)) = false := by simp; omega
  clear hg hgf hbs hbf hw EF c3 CM
  rw [hc0]
  clear hc0 d3
  go_wp2_with fail
  refine (FA.out _ _ (rowG_below HU.out HB.out)).mono ?_
  rintro e w4 ⟨um, rfl, hrm, hb⟩
  have HB := nxt HB hb
  have RM := hidE hrm
  clear hb hrm FA
  obtain ⟨am, capm, rfl⟩ := rowG_shape RM.out
  go_wp2_with fail
  refine (EF2.out _ _ RM.out).mono ?_
  rintro e w5 ⟨rfl, hb⟩
  have HB := nxt HB hb
  have RM := hidE (rowG_below RM.out hb)
  clear hb EF2
  go_wp2_with fail
  refine (TL.out _ _ (rowG_below HU.out HB.out)).mono ?_
  rintro e w6 ⟨rfl, hb⟩
  have HB := nxt HB hb
  have RM := hidE (rowG_below RM.out hb)
  clear hb TL
  go_wp2_with fail
  refine (TM.out _ _ RM.out).mono ?_
  rintro e w7 ⟨rfl, hb⟩
  have HB := nxt HB hb
  have RM := hidE (rowG_below RM.out hb)
  clear hb TM
  generalize hP1 : tyP (tyT t) = P1 at *
  generalize hP2 : tyP (tyT (foldT t)) = P2 at *
  clear hP1 hP2
  obtain ⟨f1, f2⟩ := P1
  obtain ⟨g1, g2⟩ := P2
  simp only at TT T3
  have ft : ((f2 == 0) && decide (0 < g2)) = false := by
    rcases T3.out with h | h
    · have := TT.out h
      rw [h, this]
      rfl
    · rw [h]
      rfl
  have HFT := hidE ft
  clear ft TT
  rcases T3.out with h3 | h3
  · have hg2 : decide (0 < g2) = false := by
      have := HFT.out
      rw [h3] at this
      simpa using this
    have hf2 : (f2 == 0) = true := by rw [h3]; rfl
    clear T3 HFT h3
    go_wp2_with fail
    go_loopw [11] (fun i wr => ∃ n : Nat, n ≤ es.length ∧ i = .int .i64 n ∧ Hid (Below w.heap.size w wr) ∧ Hid (RowT wr (.slice am (flat (foldT t)).length capm) (foldT t))) (fun i _ => es.length - (intOf i).toNat)
    case atStart => exact ⟨0, Nat.zero_le _, rfl, HB, RM⟩
    case round =>
      clear HB RM
      obtain ⟨n, hn, rfl, HB, RM⟩ := hrel
      by_cases hlt : n < es.length
      · obtain ⟨g, off, rfl, hce, q1, q2, q3⟩ := rowOf_val cellsE_len HV.out n hlt
        generalize es[n] = x at *
        obtain ⟨e0, e1, e2, e3, e4, e5, e6⟩ := ev7 (w := wr) (fun j hj => (HB.out.cell (p := ⟨g, off + (n * 7 + j), none⟩) q3).trans (hce j hj))
        have EVF := hidE (fun w => evFault_is x w)
        have ECx := hidE (evC_may (e := x))
        obtain ⟨t', k1, k2, a1, a2, b1, b2⟩ := x
        simp only at e0 e1 e2 e3 e4 e5 e6
        unfold aggEv at EVF
        simp only at EVF ECx
        unfold maxLen at q2
        have hgr : g < wr.heap.size := Nat.lt_of_lt_of_le q3 HB.out.size
        have kn := kin_some wr
        obtain ⟨kc, kf⟩ := kin_rules wr
        have HR9 : Hid (Below wr.heap.size wr wr) := Below.refl _ _
        clear hce
        by_cases hx : evC ⟨t', k1, k2, a1, a2, b1, b2⟩ = 0
        · rw [hx] at EVF
          have hm := ECx.out hx
          have EMk := hidE (fun p : Kin wr => EM.out ⟨t', k1, k2, a1, a2, b1, b2⟩ hm _ p.w (rowG_below RM.out p.h))
          have ELk := hidE (fun p : Kin wr => EL.out ⟨t', k1, k2, a1, a2, b1, b2⟩ hm _ p.w (rowG_below HU.out (HB.out.trans (p.h.mono HB.out.size))))
          simp only at EMk ELk
          generalize evL opV (evE t' k1 k2 a1 a2 b1 b2) (flat t) = V at *
          obtain ⟨p1, p2⟩ := V
          simp only at EMk ELk
          unfold aggE at EMk ELk
          have hne : (!(p1 == p1 && p2 == p2)) = false := by simp
          clear hx hm ECx
          go_wp2_with fail
          refine wp_region_kin HR9 (by kernel_rfl) (by kernel_rfl) ?_
          iterate 13 (go_big_quiet_step ((first | (go_at_call 21; exact kin_of (EVF.out _)) | (go_at_call 25; exact kin_of (EMk.out _)))))
          repeat (go_big_quiet_step ((go_at_call 25; exact kin_of (ELk.out _))))
          refine wpQuiet_nil ?_
          rintro _ ⟨pk, rfl⟩
          have HP := pk.h
          have RM := hidE (rowG_below RM.out HP)
          have HB := nxt HB HP
          generalize pk.w = wp at *
          clear kc kf kn HR9 HP EMk ELk
          go_wp2_with fail
          go_roundw
          case rel => exact ⟨n + 1, by omega, by go_num, HB, RM⟩
          case measure => simp [intOf]; omega
        · have dx : (evC ⟨t', k1, k2, a1, a2, b1, b2⟩ == 0) = false := by simp [hx]
          generalize evC ⟨t', k1, k2, a1, a2, b1, b2⟩ = c at *
          clear hx ECx
          go_wp2_with fail
          refine wp_region_kin HR9 (by kernel_rfl) (by kernel_rfl) ?_
          repeat (go_big_quiet_step ((go_at_call 21; exact kin_of (EVF.out _))))
          refine wpQuiet_nil ?_
          rintro _ ⟨pk, rfl⟩
          have HP := pk.h
          have RM := hidE (rowG_below RM.out HP)
          have HB := nxt HB HP
          generalize pk.w = wp at *
          clear kc kf kn HR9 HP
          go_wp2_with fail
          go_roundw
          case rel => exact ⟨n + 1, by omega, by go_num, HB, RM⟩
          case measure => simp [intOf]; omega
      · have hne2 : n = es.length := by omega
        subst hne2
        go_wp2_with fail
        go_ret
        exact ⟨rfl, HB.out⟩
  · have hf2 : (f2 == 0) = false := by rw [h3]; rfl
    clear T3 HFT h3
    go_wp2_with fail
    go_loopw [11] (fun i wr => ∃ n : Nat, n ≤ es.length ∧ i = .int .i64 n ∧ Hid (Below w.heap.size w wr) ∧ Hid (RowT wr (.slice am (flat (foldT t)).length capm) (foldT t))) (fun i _ => es.length - (intOf i).toNat)
    case atStart => exact ⟨0, Nat.zero_le _, rfl, HB, RM⟩
    case round =>
      clear HB RM
      obtain ⟨n, hn, rfl, HB, RM⟩ := hrel
      by_cases hlt : n < es.length
      · obtain ⟨g, off, rfl, hce, q1, q2, q3⟩ := rowOf_val cellsE_len HV.out n hlt
        generalize es[n] = x at *
        obtain ⟨e0, e1, e2, e3, e4, e5, e6⟩ := ev7 (w := wr) (fun j hj => (HB.out.cell (p := ⟨g, off + (n * 7 + j), none⟩) q3).trans (hce j hj))
        have EVF := hidE (fun w => evFault_is x w)
        have ECx := hidE (evC_may (e := x))
        obtain ⟨t', k1, k2, a1, a2, b1, b2⟩ := x
        simp only at e0 e1 e2 e3 e4 e5 e6
        unfold aggEv at EVF
        simp only at EVF ECx
        unfold maxLen at q2
        have hgr : g < wr.heap.size := Nat.lt_of_lt_of_le q3 HB.out.size
        have kn := kin_some wr
        obtain ⟨kc, kf⟩ := kin_rules wr
        have HR9 : Hid (Below wr.heap.size wr wr) := Below.refl _ _
        clear hce
        by_cases hx : evC ⟨t', k1, k2, a1, a2, b1, b2⟩ = 0
        · rw [hx] at EVF
          have hm := ECx.out hx
          have EMk := hidE (fun p : Kin wr => EM.out ⟨t', k1, k2, a1, a2, b1, b2⟩ hm _ p.w (rowG_below RM.out p.h))
          have ELk := hidE (fun p : Kin wr => EL.out ⟨t', k1, k2, a1, a2, b1, b2⟩ hm _ p.w (rowG_below HU.out (HB.out.trans (p.h.mono HB.out.size))))
          simp only at EMk ELk
          generalize evL opV (evE t' k1 k2 a1 a2 b1 b2) (flat t) = V at *
          obtain ⟨p1, p2⟩ := V
          simp only at EMk ELk
          unfold aggE at EMk ELk
          have hne : (!(p1 == p1 && p2 == p2)) = false := by simp
          clear hx hm ECx
          go_wp2_with fail
          refine wp_region_kin HR9 (by kernel_rfl) (by kernel_rfl) ?_
          iterate 13 (go_big_quiet_step ((first | (go_at_call 21; exact kin_of (EVF.out _)) | (go_at_call 25; exact kin_of (EMk.out _)))))
          repeat (go_big_quiet_step ((go_at_call 25; exact kin_of (ELk.out _))))
          refine wpQuiet_nil ?_
          rintro _ ⟨pk, rfl⟩
          have HP := pk.h
          have RM := hidE (rowG_below RM.out HP)
          have HB := nxt HB HP
          generalize pk.w = wp at *
          clear kc kf kn HR9 HP EMk ELk
          go_wp2_with fail
          go_roundw
          case rel => exact ⟨n + 1, by omega, by go_num, HB, RM⟩
          case measure => simp [intOf]; omega
        · have dx : (evC ⟨t', k1, k2, a1, a2, b1, b2⟩ == 0) = false := by simp [hx]
          generalize evC ⟨t', k1, k2, a1, a2, b1, b2⟩ = c at *
          clear hx ECx
          go_wp2_with fail
          refine wp_region_kin HR9 (by kernel_rfl) (by kernel_rfl) ?_
          repeat (go_big_quiet_step ((go_at_call 21; exact kin_of (EVF.out _))))
          refine wpQuiet_nil ?_
          rintro _ ⟨pk, rfl⟩
          have HP := pk.h
          have RM := hidE (rowG_below RM.out HP)
          have HB := nxt HB HP
          generalize pk.w = wp at *
          clear kc kf kn HR9 HP
          go_wp2_with fail
          go_roundw
          case rel => exact ⟨n + 1, by omega, by go_num, HB, RM⟩
          case measure => simp [intOf]; omega
      · have hne2 : n = es.length := by omega
        subst hne2
        go_wp2_with fail
        go_ret
        exact ⟨rfl, HB.out⟩
end Go.Proofs.Ytepfpmagppckeaa

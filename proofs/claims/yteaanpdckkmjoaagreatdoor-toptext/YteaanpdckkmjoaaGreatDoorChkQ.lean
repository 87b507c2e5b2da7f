/- The contract of query.Check, over this seat's translation: any question whose parts lie in memory. Conditions: as named. -/
import Derived.Test.YteaanpdckkmjoaaGreatDoorPrsLJ
import Derived.Test.YteaanpdckkmjoaaGreatDoorExprT1J
namespace Go.Proofs.YteaanpdckkmjoaaGreatDoor
open Go.ChangeShapes Go.WideShapes Go.ChangeAt Go.RowKit
set_option linter.unusedVariables false
set_option linter.unusedSimpArgs false

theorem errC_0 : errC 0 = .nilIface := rfl
theorem errC_ne {e : Int} (h : e ≠ 0) : errC e = .iface 48 (.int .i64 e) := by unfold errC; rw [if_neg h]
/-- nodes in memory, wherever -/
def NodG (w : World) (v : Value) (l : List Nd) : Prop := RowG w v 6 l.length (rowN l)
theorem nodG_below {w w' : World} {v : Value} {l : List Nd} (h : NodG w v l) (hb : Below w.heap.size w w') : NodG w' v l := rowG_below h hb
set_option maxRecDepth 100000 in
theorem kindQ_any (l : List Nd) (v : Value) (w : World) (hl : l.length ≤ 1000) (hr : NodG w v l) :
    Calls Tryz.prog 41 #[v] w fun e w' => e = .returned (.tuple #[.int .i64 (kindQ l).1, errC (kindQ l).2]) ∧ Below w.heap.size w w' := by
  have CK := check_any l v w hl hr
  have TY := hidE (fun w' (hb : Below w.heap.size w w') => type_any l v w' hl (rowG_below hr hb))
  obtain ⟨ao, cap, rfl⟩ := rowG_shape hr
  by_cases h : chkE l = 0
  · have e : kindQ l = tyE l := by unfold kindQ; rw [if_neg (by simp [h])]
    rw [h, errC_0] at CK
    rw [e]
    have CKH := hidE CK
    generalize errC (tyE l).2 = ev at *
    clear hr CK h e
    go_enter Tryz.func41, Tryz.ntmps41
    go_wp2_with fail
    refine CKH.out.mono ?_
    rintro r w1 ⟨rfl, hb⟩
    have T1 := hidE (TY.out w1 hb)
    have B1 := hidE hb
    clear hb CKH TY
    go_wp2_with fail
    refine T1.out.mono ?_
    rintro r w2 ⟨rfl, hb⟩
    have B2 := hidE (B1.out.trans (hb.mono B1.out.size))
    clear hb T1
    go_wp2_with fail
    go_ret2
    exact ⟨rfl, B2.out⟩
  · have e : kindQ l = (0, chkE l) := by unfold kindQ; rw [if_pos h]
    rw [errC_ne h] at CK
    rw [e]
    show Calls _ _ _ _ fun e w' => e = .returned (.tuple #[.int .i64 0, errC (chkE l)]) ∧ _
    rw [errC_ne h]
    have CKH := hidE CK
    clear hr CK h e TY
    go_enter Tryz.func41, Tryz.ntmps41
    go_wp2_with fail
    refine CKH.out.mono ?_
    rintro r w1 ⟨rfl, hb⟩
    have B1 := hidE hb
    clear hb CKH
    go_wp2_with fail
    go_ret2
    exact ⟨rfl, B1.out⟩
set_option maxRecDepth 100000 in
theorem checkBy_any (l : List Nd) (v : Value) (w : World) (hl : l.length ≤ 1000) (hr : NodG w v l) :
    Calls Tryz.prog 21 #[v] w fun e w' => e = .returned (errC (chkB l)) ∧ Below w.heap.size w w' := by
  have KO := hidE (kindQ_any l v w hl hr)
  obtain ⟨ao, cap, rfl⟩ := rowG_shape hr
  by_cases h : l.length = 0
  · have e : chkB l = 0 := by unfold chkB; rw [if_pos h]
    rw [e, errC_0]
    rw [h] at *
    clear hr KO h e
    go_enter Tryz.func21, Tryz.ntmps21
    go_wp2_with fail
    go_ret
    exact ⟨rfl, Below.refl _ _⟩
  · have e : chkB l = (kindQ l).2 := by unfold chkB; rw [if_neg h]
    rw [e]
    have h0 : ((l.length : Int) == 0) = false := beq_eq_false_iff_ne.2 (by omega)
    have h1 : ¬ (l.length : Int) = 0 := by omega
    generalize errC (kindQ l).2 = ev at *
    clear hr h e
    go_enter Tryz.func21, Tryz.ntmps21
    go_wp2_with fail
    refine KO.out.mono ?_
    rintro r w1 ⟨rfl, hb⟩
    have B1 := hidE hb
    clear hb KO
    go_wp2_with fail
    go_ret
    exact ⟨rfl, B1.out⟩
set_option maxRecDepth 100000 in
theorem checkWhere_any (l : List Nd) (v : Value) (w : World) (hl : l.length ≤ 1000) (hr : NodG w v l) :
    Calls Tryz.prog 20 #[v] w fun e w' => e = .returned (errC (chkW l)) ∧ Below w.heap.size w w' := by
  have KO := kindQ_any l v w hl hr
  obtain ⟨ao, cap, rfl⟩ := rowG_shape hr
  by_cases h : l.length = 0
  · have e : chkW l = 0 := by unfold chkW; rw [if_pos h]
    rw [e, errC_0]
    rw [h] at *
    clear hr KO h e
    go_enter Tryz.func20, Tryz.ntmps20
    go_wp2_with fail
    go_ret
    exact ⟨rfl, Below.refl _ _⟩
  · have h0 : ((l.length : Int) == 0) = false := beq_eq_false_iff_ne.2 (by omega)
    have h1 : ¬ (l.length : Int) = 0 := by omega
    by_cases hk : (kindQ l).2 = 0
    · rw [hk, errC_0] at KO
      have KOH := hidE KO
      by_cases h2 : (kindQ l).1 = 1
      · have e : chkW l = 3 := by unfold chkW; rw [if_neg h, if_neg (by simp [hk]), if_pos h2]
        rw [e, errC_ne (by decide)]
        rw [h2] at KOH
        clear hr h e KO hk h2
        go_enter Tryz.func20, Tryz.ntmps20
        go_wp2_with fail
        refine KOH.out.mono ?_
        rintro r w1 ⟨rfl, hb⟩
        have B1 := hidE hb
        clear hb KOH
        go_wp2_with fail
        go_ret
        exact ⟨rfl, B1.out⟩
      · have e : chkW l = 0 := by unfold chkW; rw [if_neg h, if_neg (by simp [hk]), if_neg h2]
        rw [e, errC_0]
        have h3 : ((kindQ l).1 == 1) = false := by simpa using h2
        generalize (kindQ l).1 = k at *
        clear hr h e KO hk
        go_enter Tryz.func20, Tryz.ntmps20
        go_wp2_with fail
        refine KOH.out.mono ?_
        rintro r w1 ⟨rfl, hb⟩
        have B1 := hidE hb
        clear hb KOH
        go_wp2_with fail
        go_ret
        exact ⟨rfl, B1.out⟩
    · have e : chkW l = (kindQ l).2 := by unfold chkW; rw [if_neg h, if_pos hk]
      rw [e, errC_ne hk]
      rw [errC_ne hk] at KO
      have KOH := hidE KO
      clear hr h e KO hk
      generalize (kindQ l).1 = k at *
      generalize (kindQ l).2 = c at *
      go_enter Tryz.func20, Tryz.ntmps20
      go_wp2_with fail
      refine KOH.out.mono ?_
      rintro r w1 ⟨rfl, hb⟩
      have B1 := hidE hb
      clear hb KOH
      go_wp2_with fail
      go_ret
      exact ⟨rfl, B1.out⟩
set_option maxRecDepth 100000 in
set_option maxHeartbeats 1000000 in
theorem checkAgg_any (a : AgQ) (v : Value) (w : World) (hl : a.of.length ≤ 1000) (hr : NodG w v a.of) :
    Calls Tryz.prog 19 #[.agg #[.int .i64 a.kind, v]] w fun e w' => e = .returned (errC (chkA a)) ∧ Below w.heap.size w w' := by
  obtain ⟨k, l⟩ := a
  simp only at hl hr ⊢
  obtain ⟨ao, cap, rfl⟩ := rowG_shape hr
  have ba := below_alloc w (.cells #[.int .i64 k, .slice ao l.length cap] 46)
  have BA := hidE ba
  have KO := kindQ_any l _ _ hl (nodG_below hr ba)
  by_cases h0 : k < 1 ∨ 5 < k
  · have e : chkA ⟨k, l⟩ = 3 := by unfold chkA; rw [if_pos h0]
    rw [e, errC_ne (by decide)]
    clear hr ba KO e
    by_cases h1 : k < 1
    · clear h0
      go_enter Tryz.func19, Tryz.ntmps19
      go_wp2_with fail
      go_ret
      exact ⟨rfl, BA.out⟩
    · have h2 : 5 < k := by omega
      clear h0
      go_enter Tryz.func19, Tryz.ntmps19
      go_wp2_with fail
      go_ret
      exact ⟨rfl, BA.out⟩
  · have h1 : ¬ k < 1 := by omega
    have h2 : ¬ 5 < k := by omega
    by_cases hk1 : k = 1
    · subst hk1
      by_cases hz : 0 < l.length
      · have e : chkA ⟨1, l⟩ = 3 := by unfold chkA; rw [if_neg h0, if_pos rfl, if_pos hz]
        rw [e, errC_ne (by decide)]
        have h3 : (0 : Int) < (l.length : Int) := by omega
        clear hr ba KO e h0 h1 h2 hz
        go_enter Tryz.func19, Tryz.ntmps19
        go_wp2_with fail
        go_ret
        exact ⟨rfl, BA.out⟩
      · have e : chkA ⟨1, l⟩ = 0 := by unfold chkA; rw [if_neg h0, if_pos rfl, if_neg hz]
        rw [e, errC_0]
        have h3 : l.length = 0 := by omega
        rw [h3] at *
        clear hr ba KO e h0 h1 h2 hz
        go_enter Tryz.func19, Tryz.ntmps19
        go_wp2_with fail
        go_ret
        exact ⟨rfl, below_alloc _ _⟩
    · have hk1' : (k == 1) = false := by simpa using hk1
      by_cases hk : (kindQ l).2 = 0
      · rw [hk, errC_0] at KO
        by_cases h4 : (kindQ l).1 = 2
        · rw [h4] at KO
          have KOH := hidE KO
          by_cases h5 : k = 2
          · have e : chkA ⟨k, l⟩ = 0 := by unfold chkA; rw [if_neg h0, if_neg hk1, if_neg (by simp [hk]), if_neg (by simp [h5])]
            rw [e, errC_0]
            subst h5
            clear hr ba KO e h0 h4 hk h1 h2 hk1
            go_enter Tryz.func19, Tryz.ntmps19
            go_wp2_with fail
            refine KOH.out.mono ?_
            rintro r w1 ⟨rfl, hb⟩
            have B1 := hidE (BA.out.trans (hb.mono BA.out.size))
            have c0 := hb.cell (p := ⟨w.heap.size, 0, none⟩) (by simp)
            clear hb KOH
            go_wp2_with fail
            go_ret
            exact ⟨rfl, B1.out⟩
          · have e : chkA ⟨k, l⟩ = 3 := by unfold chkA; rw [if_neg h0, if_neg hk1, if_neg (by simp [hk]), if_pos ⟨h4, h5⟩]
            rw [e, errC_ne (by decide)]
            have h5' : (k != 2) = true := by simpa using h5
            clear hr ba KO e h0 h4 hk hk1
            go_enter Tryz.func19, Tryz.ntmps19
            go_wp2_with fail
            refine KOH.out.mono ?_
            rintro r w1 ⟨rfl, hb⟩
            have B1 := hidE (BA.out.trans (hb.mono BA.out.size))
            have c0 := hb.cell (p := ⟨w.heap.size, 0, none⟩) (by simp)
            clear hb KOH
            go_wp2_with fail
            go_ret
            exact ⟨rfl, B1.out⟩
        · have e : chkA ⟨k, l⟩ = 0 := by unfold chkA; rw [if_neg h0, if_neg hk1, if_neg (by simp [hk]), if_neg (by simp [h4])]
          rw [e, errC_0]
          have h4' : ((kindQ l).1 == 2) = false := by simpa using h4
          have KOH := hidE KO
          generalize (kindQ l).1 = c at *
          clear hr ba KO e h0 hk hk1
          go_enter Tryz.func19, Tryz.ntmps19
          go_wp2_with fail
          refine KOH.out.mono ?_
          rintro r w1 ⟨rfl, hb⟩
          have B1 := hidE (BA.out.trans (hb.mono BA.out.size))
          clear hb KOH
          go_wp2_with fail
          go_ret
          exact ⟨rfl, B1.out⟩
      · have e : chkA ⟨k, l⟩ = (kindQ l).2 := by unfold chkA; rw [if_neg h0, if_neg hk1, if_pos hk]
        rw [e, errC_ne hk]
        rw [errC_ne hk] at KO
        have KOH := hidE KO
        clear hr ba KO e h0 hk hk1
        generalize (kindQ l).1 = c at *
        generalize (kindQ l).2 = c2 at *
        go_enter Tryz.func19, Tryz.ntmps19
        go_wp2_with fail
        refine KOH.out.mono ?_
        rintro r w1 ⟨rfl, hb⟩
        have B1 := hidE (BA.out.trans (hb.mono BA.out.size))
        clear hb KOH
        go_wp2_with fail
        go_ret
        exact ⟨rfl, B1.out⟩
set_option maxRecDepth 100000 in
set_option maxHeartbeats 2000000 in
theorem checkWindow_any (va vw vb : Value) (hva : isSl va = true) (hvw : isSl vw = true) (hvb : isSl vb = true) (q : Qy) (w : World) :
    Calls Tryz.prog 22 #[.agg #[va, vw, vb, .int .i64 q.size, .int .i64 q.slide, .int .i64 q.delay, .int .i64 q.late]] w fun e w' => e = .returned (errC (chkS q)) ∧ Below w.heap.size w w' := by
  obtain ⟨a1, n1, c1, rfl⟩ := sl_shape hva
  obtain ⟨a2, n2, c2, rfl⟩ := sl_shape hvw
  obtain ⟨a3, n3, c3, rfl⟩ := sl_shape hvb
  obtain ⟨aggs, wh, bys, s, l, d, t⟩ := q
  simp only
  have BA := hidE (below_alloc w (.cells #[.slice a1 n1 c1, .slice a2 n2 c2, .slice a3 n3 c3, .int .i64 s, .int .i64 l, .int .i64 d, .int .i64 t] 25))
  have i0 : ∀ a b w, (Instr.index 81 (.agg #[.int .i64 a, .int .i64 b]) (.int .i64 0)).run Tryz.prog w = .ok (.int .i64 a) w := fun _ _ _ => by kernel_rfl
  have i1 : ∀ a b w, (Instr.index 81 (.agg #[.int .i64 a, .int .i64 b]) (.int .i64 1)).run Tryz.prog w = .ok (.int .i64 b) w := fun _ _ _ => by kernel_rfl
  generalize hc : chkS ⟨aggs, wh, bys, s, l, d, t⟩ = c
  have HB : Hid ((s < 1 ∨ 1000 < s ∨ l < 1 ∨ 1000 < l ∨ d < 0 ∨ 1000 < d ∨ t < 0 ∨ 1000 < t) → c = 1) := fun h => by rw [← hc]; unfold chkS; rw [if_pos h]
  have HC : Hid (¬ (s < 1 ∨ 1000 < s ∨ l < 1 ∨ 1000 < l ∨ d < 0 ∨ 1000 < d ∨ t < 0 ∨ 1000 < t) → (s < l ∨ 4 * l < s) → c = 3) := fun h h2 => by rw [← hc]; unfold chkS; rw [if_neg h, if_pos h2]
  have HD : Hid (¬ (s < 1 ∨ 1000 < s ∨ l < 1 ∨ 1000 < l ∨ d < 0 ∨ 1000 < d ∨ t < 0 ∨ 1000 < t) → ¬ (s < l ∨ 4 * l < s) → c = 0) := fun h h2 => by rw [← hc]; unfold chkS; rw [if_neg h, if_neg h2]
  clear hc hva hvw hvb
  go_enter Tryz.func22, Tryz.ntmps22
  go_wp2_with fail
  go_loop [12] (fun i => ∃ j : Nat, j ≤ 2 ∧ i = .int .i64 j ∧ (1 ≤ j → 1 ≤ s ∧ s ≤ 1000) ∧ (2 ≤ j → 1 ≤ l ∧ l ≤ 1000)) (fun i => 4 - (intOf i).toNat)
  case atStart => exact ⟨0, by omega, rfl, by omega, by omega⟩
  case round =>
    obtain ⟨j, hj, rfl, hs, hl⟩ := hrel
    have jj : j = 0 ∨ j = 1 ∨ j = 2 := by omega
    rcases jj with rfl | rfl | rfl
    · clear hs hl hj
      by_cases h1 : s < 1
      · have e : c = 1 := HB.out (by omega)
        subst e
        go_wp2_with fail
        go_ret
        exact ⟨rfl, BA.out⟩
      · by_cases h2 : 1000 < s
        · have e : c = 1 := HB.out (by omega)
          subst e
          go_wp2_with fail
          go_ret
          exact ⟨rfl, BA.out⟩
        · go_wp2_with fail
          go_round
          case rel => exact ⟨1, by omega, rfl, by omega, by omega⟩
          case measure => simp [intOf]
    · have hs := hs (Nat.le_refl _)
      clear hl hj
      by_cases h1 : l < 1
      · have e : c = 1 := HB.out (by omega)
        subst e
        go_wp2_with fail
        go_ret
        exact ⟨rfl, BA.out⟩
      · by_cases h2 : 1000 < l
        · have e : c = 1 := HB.out (by omega)
          subst e
          go_wp2_with fail
          go_ret
          exact ⟨rfl, BA.out⟩
        · go_wp2_with fail
          go_round
          case rel => exact ⟨2, by omega, rfl, by omega, by omega⟩
          case measure => simp [intOf]
    · have hs := hs (by omega)
      have hl := hl (Nat.le_refl _)
      clear hj
      go_wp2_with fail
      go_loop [28] (fun i => ∃ j : Nat, j ≤ 2 ∧ i = .int .i64 j ∧ (1 ≤ j → 0 ≤ d ∧ d ≤ 1000) ∧ (2 ≤ j → 0 ≤ t ∧ t ≤ 1000)) (fun i => 4 - (intOf i).toNat)
      case atStart => exact ⟨0, by omega, rfl, by omega, by omega⟩
      case round =>
        obtain ⟨j, hj, rfl, hd, ht⟩ := hrel
        have jj : j = 0 ∨ j = 1 ∨ j = 2 := by omega
        rcases jj with rfl | rfl | rfl
        · clear hd ht hj
          by_cases h1 : d < 0
          · have e : c = 1 := HB.out (by omega)
            subst e
            go_wp2_with fail
            go_ret
            exact ⟨rfl, BA.out⟩
          · by_cases h2 : 1000 < d
            · have e : c = 1 := HB.out (by omega)
              subst e
              go_wp2_with fail
              go_ret
              exact ⟨rfl, BA.out⟩
            · go_wp2_with fail
              go_round
              case rel => exact ⟨1, by omega, rfl, by omega, by omega⟩
              case measure => simp [intOf]
        · have hd := hd (Nat.le_refl _)
          clear ht hj
          by_cases h1 : t < 0
          · have e : c = 1 := HB.out (by omega)
            subst e
            go_wp2_with fail
            go_ret
            exact ⟨rfl, BA.out⟩
          · by_cases h2 : 1000 < t
            · have e : c = 1 := HB.out (by omega)
              subst e
              go_wp2_with fail
              go_ret
              exact ⟨rfl, BA.out⟩
            · go_wp2_with fail
              go_round
              case rel => exact ⟨2, by omega, rfl, by omega, by omega⟩
              case measure => simp [intOf]
        · have hd := hd (by omega)
          have ht := ht (Nat.le_refl _)
          have hg : ¬ (s < 1 ∨ 1000 < s ∨ l < 1 ∨ 1000 < l ∨ d < 0 ∨ 1000 < d ∨ t < 0 ∨ 1000 < t) := by omega
          clear hj
          have wr : IntKind.i64.wrap (4 * l) = 4 * l := wrapIn2 _ (by omega) (by omega)
          by_cases h1 : s < l
          · have e : c = 3 := HC.out hg (.inl h1)
            subst e
            clear hg
            go_wp2_with fail
            go_ret
            exact ⟨rfl, BA.out⟩
          · by_cases h2 : 4 * l < s
            · have e : c = 3 := HC.out hg (.inr h2)
              subst e
              clear hg
              go_wp2_with fail
              go_ret
              exact ⟨rfl, BA.out⟩
            · have e : c = 0 := HD.out hg (by omega)
              subst e
              clear hg
              go_wp2_with fail
              go_ret
              exact ⟨rfl, BA.out⟩
end Go.Proofs.YteaanpdckkmjoaaGreatDoor

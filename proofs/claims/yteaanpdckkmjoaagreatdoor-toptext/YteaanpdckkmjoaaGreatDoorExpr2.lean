/- The contract of checkNode of package expr, over this seat's translation. Conditions: none. -/
import Derived.Test.YteaanpdckkmjoaaGreatDoorExpr1
namespace Go.Proofs.YteaanpdckkmjoaaGreatDoor
open Go.ChangeShapes Go.WideShapes Go.ChangeAt Go.RowKit
set_option linter.unusedVariables false
set_option linter.unusedSimpArgs false

attribute [local go_sem ↓] eql_value neq_value
/-- an error by its number -/
def errC (c : Int) : Value := if c = 0 then .nilIface else .iface 48 (.int .i64 c)

theorem vcheck_any (k n : Int) (w : World) :
    Calls Tryz.prog 105 #[.agg #[.int .i64 k, .int .i64 n]] w fun e w' => e = .returned (errC (if vok k n then 0 else 3)) ∧ Below w.heap.size w w' := by
  by_cases h : vok k n = true
  · rw [if_pos h]; exact check_yes k n w h
  · rw [if_neg h]; exact check_no k n w (by simpa using h)

theorem vokB_is (k n : Int) : vokB k n = vok k n := rfl

/-- what is left of checkNode's tests, where the first two let by -/
def okR (a op x y nn k v : Int) : Int := if (op ≠ 2 ∧ nn ≠ 0) ∨ (a < 2 ∧ y ≠ 0) ∨ (a < 1 ∧ x ≠ 0) then 3 else if nn < 0 ∨ 4 ≤ nn then 1 else if vok k v then 0 else 3

theorem okN_r (op x y nn k v : Int) (h1 : ¬ (ar op < 0)) (h2 : ¬ (op ≠ 1 ∧ ¬ (k = 0 ∧ v = 0))) : okN ⟨op, x, y, nn, k, v⟩ = okR (ar op) op x y nn k v := by
  unfold okN okR badN
  simp only [vokB_is]
  have : (ar op < 0 ∨ (op ≠ 1 ∧ ¬ (k = 0 ∧ v = 0)) ∨ (op ≠ 2 ∧ nn ≠ 0) ∨ (ar op < 2 ∧ y ≠ 0) ∨ (ar op < 1 ∧ x ≠ 0)) = ((op ≠ 2 ∧ nn ≠ 0) ∨ (ar op < 2 ∧ y ≠ 0) ∨ (ar op < 1 ∧ x ≠ 0)) := propext ⟨fun h => h.elim (fun q => absurd q h1) (fun h => h.elim (fun q => absurd q h2) id), fun h => .inr (.inr h)⟩
  simp only [this]
  rfl
theorem okN_3 (op x y nn k v : Int) (h : ar op < 0 ∨ (op ≠ 1 ∧ ¬ (k = 0 ∧ v = 0))) : okN ⟨op, x, y, nn, k, v⟩ = 3 := by
  unfold okN badN
  simp only
  rw [if_pos (h.elim .inl (fun q => .inr (.inl q)))]

set_option maxHeartbeats 2000000 in
theorem checkNode_any (n : Nd) (w : World) :
    Calls Tryz.prog 85 #[aggN n] w fun e w' => e = .returned (errC (okN n)) ∧ Below w.heap.size w w' := by
  obtain ⟨op, x, y, nn, k, v⟩ := n
  unfold aggN
  simp only
  have HB : Hid (Below (w.alloc (.cells #[.int .i64 op, .int .i64 x, .int .i64 y, .int .i64 nn, .int .i64 k, .int .i64 v] 91)).heap.size (w.alloc (.cells #[.int .i64 op, .int .i64 x, .int .i64 y, .int .i64 nn, .int .i64 k, .int .i64 v] 91)) (w.alloc (.cells #[.int .i64 op, .int .i64 x, .int .i64 y, .int .i64 nn, .int .i64 k, .int .i64 v] 91))) := Below.refl _ _
  have H0 : Hid (Below w.heap.size w (w.alloc (.cells #[.int .i64 op, .int .i64 x, .int .i64 y, .int .i64 nn, .int .i64 k, .int .i64 v] 91))) := (Below.refl _ _).alloc (Nat.le_refl _) _
  have kn := kin_some (w.alloc (.cells #[.int .i64 op, .int .i64 x, .int .i64 y, .int .i64 nn, .int .i64 k, .int .i64 v] 91))
  obtain ⟨kc, kf⟩ := kin_rules (w.alloc (.cells #[.int .i64 op, .int .i64 x, .int .i64 y, .int .i64 nn, .int .i64 k, .int .i64 v] 91))
  by_cases ha : ar op < 0
  · rw [okN_3 op x y nn k v (.inl ha)]
    go_enter Tryz.func85, Tryz.ntmps85
    go_wp2_with (go_at_call 103; refine (arity_any _ _).mono ?_; rintro e w' ⟨rfl, rfl⟩)
    go_ret
    exact ⟨rfl, H0.out⟩
  · have da : decide (ar op < 0) = false := by simpa using ha
    by_cases h1 : op = 1
    · have e1 := okN_r op x y nn k v ha (fun q => q.1 h1)
      rw [e1]
      have b1 : (op != 1) = false := by simp [h1]
      have HE := hidE e1
      clear e1 ha h1
      have HA := hidE (fun w => arity_any op w)
      generalize ar op = a at *
      generalize hR : okR a op x y nn k v = R
      have HR := hidE hR
      clear hR
      go_enter Tryz.func85, Tryz.ntmps85
      go_wp2_with (go_at_call 103; refine (HA.out _).mono ?_; rintro e w' ⟨rfl, rfl⟩)
      refine wp_region_kin HB (by kernel_rfl) (by kernel_rfl) ?_
      repeat (go_big_quiet_step ((go_at_call 104; exact kin_of (null_b _))))
      refine wpQuiet_nil ?_
      rintro _ ⟨p, rfl⟩
      have HB : Hid _ := p.h
      go_wp2_with (go_at_call 105; refine (vcheck_any _ _ _).mono ?_; rintro e w1 ⟨rfl, hb⟩; have HB := nxt HB hb; clear hb)
      all_goals
        go_ret
        refine ⟨?_, done H0.out HB⟩
        clear HB H0 kc kf kn HE
        have hR := HR.out
        clear HR
        first
        | (exfalso
           simp only [bne_iff_ne, ne_eq, bne_eq_false_iff_eq] at *
           omega)
        | (have hv : R = 3 := by
             rw [← hR]; unfold okR
             simp only [bne_iff_ne, ne_eq, bne_eq_false_iff_eq] at *
             rw [if_pos (by omega)]
           rw [hv]; rfl)
        | (have hv : R = 1 := by
             rw [← hR]; unfold okR
             simp only [bne_iff_ne, ne_eq, bne_eq_false_iff_eq] at *
             rw [if_neg (by omega), if_pos (by omega)]
           rw [hv]; rfl)
        | (have hv : R = (if vok k v then 0 else 3) := by
             rw [← hR]; unfold okR
             simp only [bne_iff_ne, ne_eq, bne_eq_false_iff_eq] at *
             rw [if_neg (by omega), if_neg (by omega)]
           rw [hv]
           first | rfl | (rw [if_pos (by assumption)]; rfl) | (rw [if_neg (by assumption)]; rfl))
    · have b1 : (op != 1) = true := by simp [h1]
      by_cases h2 : k = 0 ∧ v = 0
      · have e1 := okN_r op x y nn k v ha (fun q => q.2 h2)
        rw [e1]
        have bk : (k == 0 && v == 0) = true := by simp [h2]
        have HE := hidE e1
        clear e1 ha h1 h2
        have HA := hidE (fun w => arity_any op w)
        generalize ar op = a at *
        generalize hR : okR a op x y nn k v = R
        have HR := hidE hR
        clear hR
        go_enter Tryz.func85, Tryz.ntmps85
        go_wp2_with (go_at_call 103; refine (HA.out _).mono ?_; rintro e w' ⟨rfl, rfl⟩)
        refine wp_region_kin HB (by kernel_rfl) (by kernel_rfl) ?_
        repeat (go_big_quiet_step ((go_at_call 104; exact kin_of (null_b _))))
        refine wpQuiet_nil ?_
        rintro _ ⟨p, rfl⟩
        have HB : Hid _ := p.h
        go_wp2_with (go_at_call 105; refine (vcheck_any _ _ _).mono ?_; rintro e w1 ⟨rfl, hb⟩; have HB := nxt HB hb; clear hb)
        all_goals
          go_ret
          refine ⟨?_, done H0.out HB⟩
          clear HB H0 kc kf kn HE
          have hR := HR.out
          clear HR
          first
          | (exfalso
             simp only [bne_iff_ne, ne_eq, bne_eq_false_iff_eq] at *
             omega)
          | (have hv : R = 3 := by
               rw [← hR]; unfold okR
               simp only [bne_iff_ne, ne_eq, bne_eq_false_iff_eq] at *
               rw [if_pos (by omega)]
             rw [hv]; rfl)
          | (have hv : R = 1 := by
               rw [← hR]; unfold okR
               simp only [bne_iff_ne, ne_eq, bne_eq_false_iff_eq] at *
               rw [if_neg (by omega), if_pos (by omega)]
             rw [hv]; rfl)
          | (have hv : R = (if vok k v then 0 else 3) := by
               rw [← hR]; unfold okR
               simp only [bne_iff_ne, ne_eq, bne_eq_false_iff_eq] at *
               rw [if_neg (by omega), if_neg (by omega)]
             rw [hv]
             first | rfl | (rw [if_pos (by assumption)]; rfl) | (rw [if_neg (by assumption)]; rfl))
      · rw [okN_3 op x y nn k v (.inr ⟨h1, h2⟩)]
        have bk : (k == 0 && v == 0) = false := by simp; omega
        clear ha h1 h2
        go_enter Tryz.func85, Tryz.ntmps85
        go_wp2_with (go_at_call 103; refine (arity_any _ _).mono ?_; rintro e w' ⟨rfl, rfl⟩)
        refine wp_region_kin HB (by kernel_rfl) (by kernel_rfl) ?_
        repeat (go_big_quiet_step ((go_at_call 104; exact kin_of (null_b _))))
        refine wpQuiet_nil ?_
        rintro _ ⟨p, rfl⟩
        have HB : Hid _ := p.h
        go_wp2_with fail
        go_ret
        exact ⟨rfl, done H0.out HB⟩
end Go.Proofs.YteaanpdckkmjoaaGreatDoor

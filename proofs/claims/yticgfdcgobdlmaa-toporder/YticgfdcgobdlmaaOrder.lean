/- The law TopOrder, proved for every three values: it returns true and changes nothing that was there. Conditions: none. -/
import Derived.Test.YticgfdcgobdlmaaVals3
import Derived.Lib.SmallJoins
namespace Go.Proofs.Yticgfdcgobdlmaa
open Go.ChangeShapes Go.WideShapes Go.ChangeAt Go.RowKit Go.Joins
set_option linter.unusedVariables false
set_option linter.unusedSimpArgs false

theorem cmpI_zero (a b : Int) : cmpI a b = 0 ↔ a = b := by
  unfold cmpI; split
  · omega
  · split <;> omega
theorem vcmp_zero (a b c d : Int) : vcmp a b c d = 0 ↔ a = c ∧ b = d := by
  unfold vcmp; split
  · rw [cmpI_zero]; omega
  · rw [cmpI_zero]; omega
theorem cmpI_neg (a b : Int) : cmpI a b < 0 ↔ a < b := by
  unfold cmpI; split
  · omega
  · split <;> omega
theorem cmpI_pos (a b : Int) : 0 < cmpI a b ↔ b < a := by
  unfold cmpI; split
  · omega
  · split <;> omega
theorem vcmp_neg (a b c d : Int) : vcmp a b c d < 0 ↔ a < c ∨ (a = c ∧ b < d) := by
  unfold vcmp; split
  · rw [cmpI_neg]; omega
  · rw [cmpI_neg]; omega
theorem vcmp_pos (a b c d : Int) : 0 < vcmp a b c d ↔ c < a ∨ (a = c ∧ d < b) := by
  unfold vcmp; split
  · rw [cmpI_pos]; omega
  · rw [cmpI_pos]; omega

attribute [local go_sem ↓] eql_value neq_value


theorem f_neq (a b : Bool) (h : a = b) : (a != b) = false := by subst h; cases a <;> rfl

def W3 (w : World) (k1 n1 k2 n2 k3 n3 : Int) : World := ((w.alloc (.cells #[.int .i64 k1, .int .i64 n1] 35)).alloc (.cells #[.int .i64 k2, .int .i64 n2] 35)).alloc (.cells #[.int .i64 k3, .int .i64 n3] 35)

set_option maxHeartbeats 1000000 in
theorem order_walk (k1 n1 k2 n2 k3 n3 : Int) (w : World) (v1 : vok k1 n1 = true) (v2 : vok k2 n2 = true) (v3 : vok k3 n3 = true) :
    Calls Try.prog 7 #[.agg #[.int .i64 k1, .int .i64 n1], .agg #[.int .i64 k2, .int .i64 n2], .agg #[.int .i64 k3, .int .i64 n3]] w fun e w' => e = .returned (.bool true) ∧ Below w.heap.size w w' := by
  have HB : Hid (Below (((w.alloc (.cells #[.int .i64 k1, .int .i64 n1] 35)).alloc (.cells #[.int .i64 k2, .int .i64 n2] 35)).alloc (.cells #[.int .i64 k3, .int .i64 n3] 35)).heap.size (((w.alloc (.cells #[.int .i64 k1, .int .i64 n1] 35)).alloc (.cells #[.int .i64 k2, .int .i64 n2] 35)).alloc (.cells #[.int .i64 k3, .int .i64 n3] 35)) (((w.alloc (.cells #[.int .i64 k1, .int .i64 n1] 35)).alloc (.cells #[.int .i64 k2, .int .i64 n2] 35)).alloc (.cells #[.int .i64 k3, .int .i64 n3] 35))) := Below.refl _ _
  have h0 : vcmp 0 0 (numK (-5)) (numN (-5)) = -1 := by decide
  have H1 : Hid ((vcmp k1 n1 k2 n2 == 0) = (k1 == k2 && n1 == n2)) := by
    show _ = _
    rw [Bool.eq_iff_iff]; simp [vcmp_zero]
  have H2 : Hid (decide (vcmp k1 n1 k2 n2 < 0) = decide (0 < vcmp k2 n2 k1 n1)) := by
    show _ = _
    rw [decide_eq_decide, vcmp_neg, vcmp_pos]; omega
  have V1 : Hid (vok k1 n1 = true) := v1
  have V2 : Hid (vok k2 n2 = true) := v2
  have V3 : Hid (vok k3 n3 = true) := v3
  clear v1 v2 v3
  go_enter Try.func7, Try.ntmps7
  go_wp2_with (first
    | (go_at_call 34; refine (null_b _).mono ?_; rintro e w1 ⟨rfl, hb⟩; have HB := nxt HB hb; obtain ⟨hc, hf⟩ := rules HB; clear hb)
    | (go_at_call 38; refine (number_any _ _).mono ?_; rintro e w1 ⟨rfl, hb⟩; have HB := nxt HB hb; obtain ⟨hc, hf⟩ := rules HB; clear hb)
    | (go_at_call 37; refine (compare_any _ _ _ _ _).mono ?_; rintro e w1 ⟨rfl, hb⟩; have HB := nxt HB hb; obtain ⟨hc, hf⟩ := rules HB; clear hb)
    | (go_at_call 36; refine (check_yes _ _ _ (by first | exact V1.out | exact V2.out | exact V3.out)).mono ?_; rintro e w1 ⟨rfl, hb⟩; have HB := nxt HB hb; obtain ⟨hc, hf⟩ := rules HB; clear hb))
  · exfalso
    have q : (!decide (vcmp k1 n1 k2 n2 < 0) == decide (0 < vcmp k2 n2 k1 n1)) = true := by assumption
    rw [H2.out] at q; simp at q
  · have q1 : vcmp k1 n1 k2 n2 < 0 := by assumption
    have q2 : vcmp k2 n2 k3 n3 < 0 := by assumption
    have q3 : vcmp k1 n1 k3 n3 < 0 := by rw [vcmp_neg] at *; omega
    go_ret
    exact ⟨ret_bool (decide_eq_true q3), done ((((Below.refl _ _).alloc (Nat.le_refl _) _).alloc (by simp) _).alloc (by simp; omega) _) HB⟩
  · go_ret
    exact ⟨rfl, done ((((Below.refl _ _).alloc (Nat.le_refl _) _).alloc (by simp) _).alloc (by simp; omega) _) HB⟩
  · go_ret
    exact ⟨rfl, done ((((Below.refl _ _).alloc (Nat.le_refl _) _).alloc (by simp) _).alloc (by simp; omega) _) HB⟩

set_option maxHeartbeats 1000000 in
theorem order_out (k1 n1 k2 n2 k3 n3 : Int) (w : World) (v : vok k1 n1 = false ∨ (vok k1 n1 = true ∧ vok k2 n2 = false) ∨ (vok k1 n1 = true ∧ vok k2 n2 = true ∧ vok k3 n3 = false)) :
    Calls Try.prog 7 #[.agg #[.int .i64 k1, .int .i64 n1], .agg #[.int .i64 k2, .int .i64 n2], .agg #[.int .i64 k3, .int .i64 n3]] w fun e w' => e = .returned (.bool true) ∧ Below w.heap.size w w' := by
  have HB : Hid (Below (((w.alloc (.cells #[.int .i64 k1, .int .i64 n1] 35)).alloc (.cells #[.int .i64 k2, .int .i64 n2] 35)).alloc (.cells #[.int .i64 k3, .int .i64 n3] 35)).heap.size (((w.alloc (.cells #[.int .i64 k1, .int .i64 n1] 35)).alloc (.cells #[.int .i64 k2, .int .i64 n2] 35)).alloc (.cells #[.int .i64 k3, .int .i64 n3] 35)) (((w.alloc (.cells #[.int .i64 k1, .int .i64 n1] 35)).alloc (.cells #[.int .i64 k2, .int .i64 n2] 35)).alloc (.cells #[.int .i64 k3, .int .i64 n3] 35))) := Below.refl _ _
  have h0 : vcmp 0 0 (numK (-5)) (numN (-5)) = -1 := by decide
  rcases v with v1 | ⟨v1, v2⟩ | ⟨v1, v2, v3⟩
  · have V1 : Hid (vok k1 n1 = false) := v1
    clear v1
    go_enter Try.func7, Try.ntmps7
    go_wp2_with (first
      | (go_at_call 34; refine (null_b _).mono ?_; rintro e w1 ⟨rfl, hb⟩; have HB := nxt HB hb; obtain ⟨hc, hf⟩ := rules HB; clear hb)
      | (go_at_call 38; refine (number_any _ _).mono ?_; rintro e w1 ⟨rfl, hb⟩; have HB := nxt HB hb; obtain ⟨hc, hf⟩ := rules HB; clear hb)
      | (go_at_call 37; refine (compare_any _ _ _ _ _).mono ?_; rintro e w1 ⟨rfl, hb⟩; have HB := nxt HB hb; obtain ⟨hc, hf⟩ := rules HB; clear hb)
      | (go_at_call 36; refine (check_no _ _ _ (by first | exact V1.out | exact V2.out | exact V3.out)).mono ?_; rintro e w1 ⟨rfl, hb⟩; have HB := nxt HB hb; obtain ⟨hc, hf⟩ := rules HB; clear hb)
      | (go_at_call 36; refine (check_yes _ _ _ (by first | exact V1.out | exact V2.out)).mono ?_; rintro e w1 ⟨rfl, hb⟩; have HB := nxt HB hb; obtain ⟨hc, hf⟩ := rules HB; clear hb))
    go_ret
    exact ⟨rfl, done (w3_below _ _ _ _) HB⟩
  · have V1 : Hid (vok k1 n1 = true) := v1
    have V2 : Hid (vok k2 n2 = false) := v2
    clear v1 v2
    go_enter Try.func7, Try.ntmps7
    go_wp2_with (first
      | (go_at_call 34; refine (null_b _).mono ?_; rintro e w1 ⟨rfl, hb⟩; have HB := nxt HB hb; obtain ⟨hc, hf⟩ := rules HB; clear hb)
      | (go_at_call 38; refine (number_any _ _).mono ?_; rintro e w1 ⟨rfl, hb⟩; have HB := nxt HB hb; obtain ⟨hc, hf⟩ := rules HB; clear hb)
      | (go_at_call 37; refine (compare_any _ _ _ _ _).mono ?_; rintro e w1 ⟨rfl, hb⟩; have HB := nxt HB hb; obtain ⟨hc, hf⟩ := rules HB; clear hb)
      | (go_at_call 36; refine (check_no _ _ _ (by first | exact V1.out | exact V2.out | exact V3.out)).mono ?_; rintro e w1 ⟨rfl, hb⟩; have HB := nxt HB hb; obtain ⟨hc, hf⟩ := rules HB; clear hb)
      | (go_at_call 36; refine (check_yes _ _ _ (by first | exact V1.out | exact V2.out)).mono ?_; rintro e w1 ⟨rfl, hb⟩; have HB := nxt HB hb; obtain ⟨hc, hf⟩ := rules HB; clear hb))
    go_ret
    exact ⟨rfl, done (w3_below _ _ _ _) HB⟩
  · have V1 : Hid (vok k1 n1 = true) := v1
    have V2 : Hid (vok k2 n2 = true) := v2
    have V3 : Hid (vok k3 n3 = false) := v3
    clear v1 v2 v3
    go_enter Try.func7, Try.ntmps7
    go_wp2_with (first
      | (go_at_call 34; refine (null_b _).mono ?_; rintro e w1 ⟨rfl, hb⟩; have HB := nxt HB hb; obtain ⟨hc, hf⟩ := rules HB; clear hb)
      | (go_at_call 38; refine (number_any _ _).mono ?_; rintro e w1 ⟨rfl, hb⟩; have HB := nxt HB hb; obtain ⟨hc, hf⟩ := rules HB; clear hb)
      | (go_at_call 37; refine (compare_any _ _ _ _ _).mono ?_; rintro e w1 ⟨rfl, hb⟩; have HB := nxt HB hb; obtain ⟨hc, hf⟩ := rules HB; clear hb)
      | (go_at_call 36; refine (check_no _ _ _ (by first | exact V1.out | exact V2.out | exact V3.out)).mono ?_; rintro e w1 ⟨rfl, hb⟩; have HB := nxt HB hb; obtain ⟨hc, hf⟩ := rules HB; clear hb)
      | (go_at_call 36; refine (check_yes _ _ _ (by first | exact V1.out | exact V2.out)).mono ?_; rintro e w1 ⟨rfl, hb⟩; have HB := nxt HB hb; obtain ⟨hc, hf⟩ := rules HB; clear hb))
    go_ret
    exact ⟨rfl, done (w3_below _ _ _ _) HB⟩

theorem order_all (k1 n1 k2 n2 k3 n3 : Int) (w : World) :
    Calls Try.prog 7 #[.agg #[.int .i64 k1, .int .i64 n1], .agg #[.int .i64 k2, .int .i64 n2], .agg #[.int .i64 k3, .int .i64 n3]] w fun e w' => e = .returned (.bool true) ∧ Below w.heap.size w w' := by
  cases v1 : vok k1 n1
  · exact order_out _ _ _ _ _ _ _ (.inl v1)
  · cases v2 : vok k2 n2
    · exact order_out _ _ _ _ _ _ _ (.inr (.inl ⟨v1, v2⟩))
    · cases v3 : vok k3 n3
      · exact order_out _ _ _ _ _ _ _ (.inr (.inr ⟨v1, v2, v3⟩))
      · exact order_walk _ _ _ _ _ _ _ v1 v2 v3
end Go.Proofs.Yticgfdcgobdlmaa

/- The contract of penstockref.Do, over this seat's translation: it answers what value.Do answers, for values that may be. Conditions: both values may be. -/
import Derived.Test.YtepfpmagppckeaaRefVals
namespace Go.Proofs.Ytepfpmagppckeaa
open Go.RowKit
set_option linter.unusedVariables false
set_option linter.unusedSimpArgs false
attribute [local go_sem ↓] eql_value neq_value

theorem rtruth_x (b : Bool) (w : World) :
    Calls Try.prog 29 #[.bool b] w fun e w' => e = .returned (.agg #[.int .i64 2, .int .i64 (b01 b)]) ∧ w' = w.alloc (.cells #[.int .i64 2, .int .i64 (b01 b)] 35) := by
  cases b
  · go_enter Try.func29, Try.ntmps29
    go_wp2
    exact bodyPost_ret (v := .agg #[.int .i64 2, .int .i64 0]) (by simp [results, Try.results29, go_sem]) rfl ⟨rfl, rfl⟩
  · go_enter Try.func29, Try.ntmps29
    go_wp2
    exact bodyPost_ret (v := .agg #[.int .i64 2, .int .i64 1]) (by simp [results, Try.results29, go_sem]) rfl ⟨rfl, rfl⟩

theorem rnum_x (n : Int) (w : World) :
    Calls Try.prog 52 #[.int .i64 n] w fun e w' => e = .returned (.agg #[.int .i64 (numK n), .int .i64 (numN n)]) ∧ w' = w.alloc (.cells #[.int .i64 (numK n), .int .i64 (numN n)] 35) := by
  by_cases h1 : n < -1000000000
  · have e1 : numK n = 0 := by unfold numK; rw [if_neg (by omega)]
    have e2 : numN n = 0 := by unfold numN; rw [if_neg (by omega)]
    rw [e1, e2]; clear e1 e2
    go_enter Try.func52, Try.ntmps52
    go_wp2
    exact bodyPost_ret (v := .agg #[.int .i64 0, .int .i64 0]) (by simp [results, Try.results52, go_sem]) rfl ⟨rfl, rfl⟩
  · by_cases h2 : 1000000000 < n
    · have e1 : numK n = 0 := by unfold numK; rw [if_neg (by omega)]
      have e2 : numN n = 0 := by unfold numN; rw [if_neg (by omega)]
      rw [e1, e2]; clear e1 e2
      go_enter Try.func52, Try.ntmps52
      go_wp2
      exact bodyPost_ret (v := .agg #[.int .i64 0, .int .i64 0]) (by simp [results, Try.results52, go_sem]) rfl ⟨rfl, rfl⟩
    · have e1 : numK n = 1 := by unfold numK; rw [if_pos (by omega)]
      have e2 : numN n = n := by unfold numN; rw [if_pos (by omega)]
      rw [e1, e2]; clear e1 e2
      go_enter Try.func52, Try.ntmps52
      go_wp2
      exact bodyPost_ret (v := .agg #[.int .i64 1, .int .i64 n]) (by simp [results, Try.results52, go_sem]) rfl ⟨rfl, rfl⟩

theorem rtruth_F (w : World) :
    Calls Try.prog 29 #[.bool false] w fun e w' => e = .returned (.agg #[.int .i64 2, .int .i64 0]) ∧ w' = w.alloc (.cells #[.int .i64 2, .int .i64 0] 35) := rtruth_x false w
theorem rtruth_T (w : World) :
    Calls Try.prog 29 #[.bool true] w fun e w' => e = .returned (.agg #[.int .i64 2, .int .i64 1]) ∧ w' = w.alloc (.cells #[.int .i64 2, .int .i64 1] 35) := rtruth_x true w

set_option maxHeartbeats 8000000 in
theorem rdo_and (k1 n1 k2 n2 : Int) (w : World) (ha : vok k1 n1 = true) (hb : vok k2 n2 = true) :
    Calls Try.prog 28 #[.int .i64 9, .agg #[.int .i64 k1, .int .i64 n1], .agg #[.int .i64 k2, .int .i64 n2]] w fun e w' => e = .returned (.agg #[.int .i64 (andK k1 n1 k2 n2), .int .i64 (andN k1 n1 k2 n2)]) ∧ Below w.heap.size w w' := by
  have ha := of_decide_eq_true ha
  have hb := of_decide_eq_true hb
  rcases ha with ⟨rfl, rfl⟩ | ⟨rfl, a1, a2⟩ | ⟨rfl, rfl | rfl⟩ <;> rcases hb with ⟨rfl, rfl⟩ | ⟨rfl, b1, b2⟩ | ⟨rfl, rfl | rfl⟩
  all_goals
    simp only [andK, andN, isF, isT, Int.reduceBEq, Bool.and_false, Bool.false_and, Bool.and_true, Bool.true_and, Bool.or_false, Bool.false_or, Bool.or_true, Bool.true_or, Bool.and_self, Bool.or_self, if_true, if_false, Bool.false_eq_true, ite_false, ite_true]
    go_enter Try.func28, Try.ntmps28
    go_wp2_with (first | (go_at_call 29; refine (rtruth_F _).mono ?_; rintro e w' ⟨rfl, rfl⟩) | (go_at_call 29; refine (rtruth_T _).mono ?_; rintro e w' ⟨rfl, rfl⟩))
    first
    | refine bodyPost_ret (v := .agg #[.int .i64 0, .int .i64 0]) (by simp [results, Try.results28, go_sem]) rfl ⟨rfl, ?_⟩
    | refine bodyPost_ret (v := .agg #[.int .i64 2, .int .i64 0]) (by simp [results, Try.results28, go_sem]) rfl ⟨rfl, ?_⟩
    | refine bodyPost_ret (v := .agg #[.int .i64 2, .int .i64 1]) (by simp [results, Try.results28, go_sem]) rfl ⟨rfl, ?_⟩
    repeat (first | exact Below.refl _ _ | refine Below.alloc ?_ (by simp <;> omega) _ | refine Below.setCell ?_ (by simp <;> omega) _)

set_option maxHeartbeats 8000000 in
theorem rdo_or (k1 n1 k2 n2 : Int) (w : World) (ha : vok k1 n1 = true) (hb : vok k2 n2 = true) :
    Calls Try.prog 28 #[.int .i64 10, .agg #[.int .i64 k1, .int .i64 n1], .agg #[.int .i64 k2, .int .i64 n2]] w fun e w' => e = .returned (.agg #[.int .i64 (orK k1 n1 k2 n2), .int .i64 (orN k1 n1 k2 n2)]) ∧ Below w.heap.size w w' := by
  have ha := of_decide_eq_true ha
  have hb := of_decide_eq_true hb
  rcases ha with ⟨rfl, rfl⟩ | ⟨rfl, a1, a2⟩ | ⟨rfl, rfl | rfl⟩ <;> rcases hb with ⟨rfl, rfl⟩ | ⟨rfl, b1, b2⟩ | ⟨rfl, rfl | rfl⟩
  all_goals
    simp only [orK, orN, isF, isT, Int.reduceBEq, Bool.and_false, Bool.false_and, Bool.and_true, Bool.true_and, Bool.or_false, Bool.false_or, Bool.or_true, Bool.true_or, Bool.and_self, Bool.or_self, if_true, if_false, Bool.false_eq_true, ite_false, ite_true]
    go_enter Try.func28, Try.ntmps28
    go_wp2_with (first | (go_at_call 29; refine (rtruth_F _).mono ?_; rintro e w' ⟨rfl, rfl⟩) | (go_at_call 29; refine (rtruth_T _).mono ?_; rintro e w' ⟨rfl, rfl⟩))
    first
    | refine bodyPost_ret (v := .agg #[.int .i64 0, .int .i64 0]) (by simp [results, Try.results28, go_sem]) rfl ⟨rfl, ?_⟩
    | refine bodyPost_ret (v := .agg #[.int .i64 2, .int .i64 0]) (by simp [results, Try.results28, go_sem]) rfl ⟨rfl, ?_⟩
    | refine bodyPost_ret (v := .agg #[.int .i64 2, .int .i64 1]) (by simp [results, Try.results28, go_sem]) rfl ⟨rfl, ?_⟩
    repeat (first | exact Below.refl _ _ | refine Below.alloc ?_ (by simp <;> omega) _ | refine Below.setCell ?_ (by simp <;> omega) _)

theorem rdo_add (n1 n2 : Int) (w : World) (a1 : -1000000000 ≤ n1) (a2 : n1 ≤ 1000000000) (a3 : -1000000000 ≤ n2) (a4 : n2 ≤ 1000000000) :
    Calls Try.prog 28 #[.int .i64 6, .agg #[.int .i64 1, .int .i64 n1], .agg #[.int .i64 1, .int .i64 n2]] w fun e w' => e = .returned (.agg #[.int .i64 (numK (n1 + n2)), .int .i64 (numN (n1 + n2))]) ∧ Below w.heap.size w w' := by
  have h1 : ((1 : Int) != 1) = false := rfl
  go_enter Try.func28, Try.ntmps28
  go_wp2_with (first | (go_at_call 29; refine (rtruth_F _).mono ?_; rintro e w' ⟨rfl, rfl⟩) | (go_at_call 29; refine (rtruth_T _).mono ?_; rintro e w' ⟨rfl, rfl⟩) | (go_at_call 52; refine (rnum_x _ _).mono ?_; rintro e w' ⟨rfl, rfl⟩) | (go_at_call 29; refine (rtruth_x _ _).mono ?_; rintro e w' ⟨rfl, rfl⟩))
  refine bodyPost_ret (v := .agg #[.int .i64 (numK (n1 + n2)), .int .i64 (numN (n1 + n2))]) (by simp [results, Try.results28, go_sem]) rfl ⟨rfl, ?_⟩
  repeat (first | exact Below.refl _ _ | refine Below.alloc ?_ (by simp <;> omega) _ | refine Below.setCell ?_ (by simp <;> omega) _)

theorem rdo_sub (n1 n2 : Int) (w : World) (a1 : -1000000000 ≤ n1) (a2 : n1 ≤ 1000000000) (a3 : -1000000000 ≤ n2) (a4 : n2 ≤ 1000000000) :
    Calls Try.prog 28 #[.int .i64 7, .agg #[.int .i64 1, .int .i64 n1], .agg #[.int .i64 1, .int .i64 n2]] w fun e w' => e = .returned (.agg #[.int .i64 (numK (n1 - n2)), .int .i64 (numN (n1 - n2))]) ∧ Below w.heap.size w w' := by
  have h1 : ((1 : Int) != 1) = false := rfl
  go_enter Try.func28, Try.ntmps28
  go_wp2_with (first | (go_at_call 29; refine (rtruth_F _).mono ?_; rintro e w' ⟨rfl, rfl⟩) | (go_at_call 29; refine (rtruth_T _).mono ?_; rintro e w' ⟨rfl, rfl⟩) | (go_at_call 52; refine (rnum_x _ _).mono ?_; rintro e w' ⟨rfl, rfl⟩) | (go_at_call 29; refine (rtruth_x _ _).mono ?_; rintro e w' ⟨rfl, rfl⟩))
  refine bodyPost_ret (v := .agg #[.int .i64 (numK (n1 - n2)), .int .i64 (numN (n1 - n2))]) (by simp [results, Try.results28, go_sem]) rfl ⟨rfl, ?_⟩
  repeat (first | exact Below.refl _ _ | refine Below.alloc ?_ (by simp <;> omega) _ | refine Below.setCell ?_ (by simp <;> omega) _)

theorem rdo_mul (n1 n2 : Int) (w : World) (a1 : -1000000000 ≤ n1) (a2 : n1 ≤ 1000000000) (a3 : -1000000000 ≤ n2) (a4 : n2 ≤ 1000000000) :
    Calls Try.prog 28 #[.int .i64 8, .agg #[.int .i64 1, .int .i64 n1], .agg #[.int .i64 1, .int .i64 n2]] w fun e w' => e = .returned (.agg #[.int .i64 (numK (n1 * n2)), .int .i64 (numN (n1 * n2))]) ∧ Below w.heap.size w w' := by
  have h1 : ((1 : Int) != 1) = false := rfl
  have m1 : -1000000000000000000 ≤ n1 * n2 := mul_lo n1 n2 a1 a2 a3 a4
  have m2 : n1 * n2 ≤ 1000000000000000000 := mul_hi n1 n2 a1 a2 a3 a4
  go_enter Try.func28, Try.ntmps28
  go_wp2_with (first | (go_at_call 29; refine (rtruth_F _).mono ?_; rintro e w' ⟨rfl, rfl⟩) | (go_at_call 29; refine (rtruth_T _).mono ?_; rintro e w' ⟨rfl, rfl⟩) | (go_at_call 52; refine (rnum_x _ _).mono ?_; rintro e w' ⟨rfl, rfl⟩) | (go_at_call 29; refine (rtruth_x _ _).mono ?_; rintro e w' ⟨rfl, rfl⟩))
  refine bodyPost_ret (v := .agg #[.int .i64 (numK (n1 * n2)), .int .i64 (numN (n1 * n2))]) (by simp [results, Try.results28, go_sem]) rfl ⟨rfl, ?_⟩
  repeat (first | exact Below.refl _ _ | refine Below.alloc ?_ (by simp <;> omega) _ | refine Below.setCell ?_ (by simp <;> omega) _)

theorem rdo_less (n1 n2 : Int) (w : World) (a1 : -1000000000 ≤ n1) (a2 : n1 ≤ 1000000000) (a3 : -1000000000 ≤ n2) (a4 : n2 ≤ 1000000000) :
    Calls Try.prog 28 #[.int .i64 11, .agg #[.int .i64 1, .int .i64 n1], .agg #[.int .i64 1, .int .i64 n2]] w fun e w' => e = .returned (.agg #[.int .i64 2, .int .i64 (b01 (decide (n1 < n2)))]) ∧ Below w.heap.size w w' := by
  have h1 : ((1 : Int) != 1) = false := rfl
  go_enter Try.func28, Try.ntmps28
  go_wp2_with (first | (go_at_call 29; refine (rtruth_F _).mono ?_; rintro e w' ⟨rfl, rfl⟩) | (go_at_call 29; refine (rtruth_T _).mono ?_; rintro e w' ⟨rfl, rfl⟩) | (go_at_call 52; refine (rnum_x _ _).mono ?_; rintro e w' ⟨rfl, rfl⟩) | (go_at_call 29; refine (rtruth_x _ _).mono ?_; rintro e w' ⟨rfl, rfl⟩))
  refine bodyPost_ret (v := .agg #[.int .i64 2, .int .i64 (b01 (decide (n1 < n2)))]) (by simp [results, Try.results28, go_sem]) rfl ⟨rfl, ?_⟩
  repeat (first | exact Below.refl _ _ | refine Below.alloc ?_ (by simp <;> omega) _ | refine Below.setCell ?_ (by simp <;> omega) _)

theorem rdo_same (n1 n2 : Int) (w : World) (a1 : -1000000000 ≤ n1) (a2 : n1 ≤ 1000000000) (a3 : -1000000000 ≤ n2) (a4 : n2 ≤ 1000000000) :
    Calls Try.prog 28 #[.int .i64 12, .agg #[.int .i64 1, .int .i64 n1], .agg #[.int .i64 1, .int .i64 n2]] w fun e w' => e = .returned (.agg #[.int .i64 2, .int .i64 (b01 (n1 == n2))]) ∧ Below w.heap.size w w' := by
  have h1 : ((1 : Int) != 1) = false := rfl
  go_enter Try.func28, Try.ntmps28
  go_wp2_with (first | (go_at_call 29; refine (rtruth_F _).mono ?_; rintro e w' ⟨rfl, rfl⟩) | (go_at_call 29; refine (rtruth_T _).mono ?_; rintro e w' ⟨rfl, rfl⟩) | (go_at_call 52; refine (rnum_x _ _).mono ?_; rintro e w' ⟨rfl, rfl⟩) | (go_at_call 29; refine (rtruth_x _ _).mono ?_; rintro e w' ⟨rfl, rfl⟩))
  refine bodyPost_ret (v := .agg #[.int .i64 2, .int .i64 (b01 (n1 == n2))]) (by simp [results, Try.results28, go_sem]) rfl ⟨rfl, ?_⟩
  repeat (first | exact Below.refl _ _ | refine Below.alloc ?_ (by simp <;> omega) _ | refine Below.setCell ?_ (by simp <;> omega) _)

theorem rdo_none (op n1 n2 : Int) (w : World) (h9 : (op == 9) = false) (h10 : (op == 10) = false) (h6 : (op == 6) = false) (h7 : (op == 7) = false) (h8 : (op == 8) = false) (h11 : (op == 11) = false) (h12 : (op == 12) = false) :
    Calls Try.prog 28 #[.int .i64 op, .agg #[.int .i64 1, .int .i64 n1], .agg #[.int .i64 1, .int .i64 n2]] w fun e w' => e = .returned (.agg #[.int .i64 0, .int .i64 0]) ∧ Below w.heap.size w w' := by
  have h1 : ((1 : Int) != 1) = false := rfl
  go_enter Try.func28, Try.ntmps28
  go_wp2_with (first | (go_at_call 29; refine (rtruth_F _).mono ?_; rintro e w' ⟨rfl, rfl⟩) | (go_at_call 29; refine (rtruth_T _).mono ?_; rintro e w' ⟨rfl, rfl⟩))
  refine bodyPost_ret (v := .agg #[.int .i64 0, .int .i64 0]) (by simp [results, Try.results28, go_sem]) rfl ⟨rfl, ?_⟩
  repeat (first | exact Below.refl _ _ | refine Below.alloc ?_ (by simp <;> omega) _ | refine Below.setCell ?_ (by simp <;> omega) _)

theorem rdo_no1 (op k1 n1 k2 n2 : Int) (w : World) (h9 : (op == 9) = false) (h10 : (op == 10) = false) (hk : (k1 != 1) = true) :
    Calls Try.prog 28 #[.int .i64 op, .agg #[.int .i64 k1, .int .i64 n1], .agg #[.int .i64 k2, .int .i64 n2]] w fun e w' => e = .returned (.agg #[.int .i64 0, .int .i64 0]) ∧ Below w.heap.size w w' := by
  go_enter Try.func28, Try.ntmps28
  go_wp2_with (first | (go_at_call 29; refine (rtruth_F _).mono ?_; rintro e w' ⟨rfl, rfl⟩) | (go_at_call 29; refine (rtruth_T _).mono ?_; rintro e w' ⟨rfl, rfl⟩))
  refine bodyPost_ret (v := .agg #[.int .i64 0, .int .i64 0]) (by simp [results, Try.results28, go_sem]) rfl ⟨rfl, ?_⟩
  repeat (first | exact Below.refl _ _ | refine Below.alloc ?_ (by simp <;> omega) _ | refine Below.setCell ?_ (by simp <;> omega) _)

theorem rdo_no2 (op k1 n1 k2 n2 : Int) (w : World) (h9 : (op == 9) = false) (h10 : (op == 10) = false) (hk : (k1 != 1) = false) (hl : (k2 != 1) = true) :
    Calls Try.prog 28 #[.int .i64 op, .agg #[.int .i64 k1, .int .i64 n1], .agg #[.int .i64 k2, .int .i64 n2]] w fun e w' => e = .returned (.agg #[.int .i64 0, .int .i64 0]) ∧ Below w.heap.size w w' := by
  go_enter Try.func28, Try.ntmps28
  go_wp2_with (first | (go_at_call 29; refine (rtruth_F _).mono ?_; rintro e w' ⟨rfl, rfl⟩) | (go_at_call 29; refine (rtruth_T _).mono ?_; rintro e w' ⟨rfl, rfl⟩))
  refine bodyPost_ret (v := .agg #[.int .i64 0, .int .i64 0]) (by simp [results, Try.results28, go_sem]) rfl ⟨rfl, ?_⟩
  repeat (first | exact Below.refl _ _ | refine Below.alloc ?_ (by simp <;> omega) _ | refine Below.setCell ?_ (by simp <;> omega) _)

theorem rdo_any (op k1 n1 k2 n2 : Int) (w : World) (ha : vok k1 n1 = true) (hb : vok k2 n2 = true) :
    Calls Try.prog 28 #[.int .i64 op, .agg #[.int .i64 k1, .int .i64 n1], .agg #[.int .i64 k2, .int .i64 n2]] w fun e w' => e = .returned (.agg #[.int .i64 (doV op k1 n1 k2 n2).1, .int .i64 (doV op k1 n1 k2 n2).2]) ∧ Below w.heap.size w w' := by
  by_cases h9 : op = 9
  · subst h9; exact rdo_and k1 n1 k2 n2 w ha hb
  · by_cases h10 : op = 10
    · subst h10; exact rdo_or k1 n1 k2 n2 w ha hb
    · have g9 : (op == 9) = false := by simp [h9]
      have g10 : (op == 10) = false := by simp [h10]
      by_cases k : k1 = 1 ∧ k2 = 1
      · obtain ⟨rfl, rfl⟩ := k
        have ga := of_decide_eq_true ha
        have gb := of_decide_eq_true hb
        have a1 : -1000000000 ≤ n1 := by omega
        have a2 : n1 ≤ 1000000000 := by omega
        have a3 : -1000000000 ≤ n2 := by omega
        have a4 : n2 ≤ 1000000000 := by omega
        by_cases h6 : op = 6
        · subst h6; exact rdo_add n1 n2 w a1 a2 a3 a4
        · by_cases h7 : op = 7
          · subst h7; exact rdo_sub n1 n2 w a1 a2 a3 a4
          · by_cases h8 : op = 8
            · subst h8; exact rdo_mul n1 n2 w a1 a2 a3 a4
            · by_cases h11 : op = 11
              · subst h11; exact rdo_less n1 n2 w a1 a2 a3 a4
              · by_cases h12 : op = 12
                · subst h12; exact rdo_same n1 n2 w a1 a2 a3 a4
                · have e : doV op 1 n1 1 n2 = (0, 0) := by simp [doV, h9, h10, h6, h7, h8, h11, h12]
                  rw [e]
                  exact rdo_none op n1 n2 w g9 g10 (by simp [h6]) (by simp [h7]) (by simp [h8]) (by simp [h11]) (by simp [h12])
      · have e : doV op k1 n1 k2 n2 = (0, 0) := by simp only [doV, h9, h10, k, if_false]
        rw [e]
        by_cases hk : k1 = 1
        · exact rdo_no2 op k1 n1 k2 n2 w g9 g10 (by simp [hk]) (by simp; exact fun h => k ⟨hk, h⟩)
        · exact rdo_no1 op k1 n1 k2 n2 w g9 g10 (by simp [hk])
end Go.Proofs.Ytepfpmagppckeaa

/- Contracts of penstockref.Num, Truth, ValueFault and Do, over this seat's translation: they answer what package value answers, for values that may be. Conditions: as named. -/
import Derived.Test.YtepfpmagppckeaaVals4
namespace Go.Proofs.Ytepfpmagppckeaa
open Go.RowKit
set_option linter.unusedVariables false
set_option linter.unusedSimpArgs false
attribute [local go_sem ↓] eql_value neq_value

theorem rnum_any (n : Int) (w : World) :
    Calls Try.prog 52 #[.int .i64 n] w fun e w' => e = .returned (.agg #[.int .i64 (numK n), .int .i64 (numN n)]) ∧ Below w.heap.size w w' := by
  by_cases h1 : n < -1000000000
  · have e1 : numK n = 0 := by unfold numK; rw [if_neg (by omega)]
    have e2 : numN n = 0 := by unfold numN; rw [if_neg (by omega)]
    rw [e1, e2]; clear e1 e2
    go_enter Try.func52, Try.ntmps52
    go_wp2
    refine bodyPost_ret (v := .agg #[.int .i64 0, .int .i64 0]) (by simp [results, Try.results52, go_sem]) rfl ⟨rfl, ?_⟩
    repeat (first | exact Below.refl _ _ | refine Below.alloc ?_ (by simp) _ | refine Below.setCell ?_ (by simp) _)
  · by_cases h2 : 1000000000 < n
    · have e1 : numK n = 0 := by unfold numK; rw [if_neg (by omega)]
      have e2 : numN n = 0 := by unfold numN; rw [if_neg (by omega)]
      rw [e1, e2]; clear e1 e2
      go_enter Try.func52, Try.ntmps52
      go_wp2
      refine bodyPost_ret (v := .agg #[.int .i64 0, .int .i64 0]) (by simp [results, Try.results52, go_sem]) rfl ⟨rfl, ?_⟩
      repeat (first | exact Below.refl _ _ | refine Below.alloc ?_ (by simp) _ | refine Below.setCell ?_ (by simp) _)
    · have e1 : numK n = 1 := by unfold numK; rw [if_pos (by omega)]
      have e2 : numN n = n := by unfold numN; rw [if_pos (by omega)]
      rw [e1, e2]; clear e1 e2
      go_enter Try.func52, Try.ntmps52
      go_wp2
      refine bodyPost_ret (v := .agg #[.int .i64 1, .int .i64 n]) (by simp [results, Try.results52, go_sem]) rfl ⟨rfl, ?_⟩
      repeat (first | exact Below.refl _ _ | refine Below.alloc ?_ (by simp) _ | refine Below.setCell ?_ (by simp) _)

theorem rtruth_any (b : Bool) (w : World) :
    Calls Try.prog 29 #[.bool b] w fun e w' => e = .returned (.agg #[.int .i64 2, .int .i64 (b01 b)]) ∧ Below w.heap.size w w' := by
  cases b
  all_goals
    go_enter Try.func29, Try.ntmps29
    go_wp2
    first
    | (refine bodyPost_ret (v := .agg #[.int .i64 2, .int .i64 0]) (by simp [results, Try.results29, go_sem]) rfl ⟨rfl, ?_⟩
       repeat (first | exact Below.refl _ _ | refine Below.alloc ?_ (by simp) _ | refine Below.setCell ?_ (by simp) _))
    | (refine bodyPost_ret (v := .agg #[.int .i64 2, .int .i64 1]) (by simp [results, Try.results29, go_sem]) rfl ⟨rfl, ?_⟩
       repeat (first | exact Below.refl _ _ | refine Below.alloc ?_ (by simp) _ | refine Below.setCell ?_ (by simp) _))

theorem fault_yes (k n : Int) (w : World) (h : vok k n = true) :
    Calls Try.prog 42 #[.agg #[.int .i64 k, .int .i64 n]] w fun e w' => e = .returned (.int .i64 0) ∧ Below w.heap.size w w' := by
  have h' := of_decide_eq_true h
  clear h
  rcases h' with ⟨rfl, rfl⟩ | ⟨rfl, h1, h2⟩ | ⟨rfl, rfl | rfl⟩
  all_goals
    go_enter Try.func42, Try.ntmps42
    go_wp2
    go_ret
    exact ⟨rfl, (Below.refl _ _).alloc (Nat.le_refl _) _⟩

theorem fault_no (k n : Int) (w : World) (h : vok k n = false) :
    Calls Try.prog 42 #[.agg #[.int .i64 k, .int .i64 n]] w fun e w' => e = .returned (.int .i64 3) ∧ Below w.heap.size w w' := by
  have h' := of_decide_eq_false h
  clear h
  by_cases k0 : k = 0
  · subst k0
    have hn : (n == 0) = false := by simp; omega
    clear h'
    go_enter Try.func42, Try.ntmps42
    go_wp2
    go_ret
    exact ⟨rfl, (Below.refl _ _).alloc (Nat.le_refl _) _⟩
  · by_cases k1 : k = 1
    · subst k1
      by_cases l : -1000000000 ≤ n
      · have l2 : decide (n ≤ 1000000000) = false := by simp; omega
        clear h' k0
        go_enter Try.func42, Try.ntmps42
        go_wp2
        go_ret
        exact ⟨rfl, (Below.refl _ _).alloc (Nat.le_refl _) _⟩
      · clear h' k0
        go_enter Try.func42, Try.ntmps42
        go_wp2
        go_ret
        exact ⟨rfl, (Below.refl _ _).alloc (Nat.le_refl _) _⟩
    · by_cases k2 : k = 2
      · subst k2
        have a1 : (n == 0) = false := by simp; omega
        have a2 : (n == 1) = false := by simp; omega
        clear h' k0 k1
        go_enter Try.func42, Try.ntmps42
        go_wp2
        go_ret
        exact ⟨rfl, (Below.refl _ _).alloc (Nat.le_refl _) _⟩
      · have a0 : (k == 0) = false := by simp; omega
        have a1 : (k == 1) = false := by simp; omega
        have a2 : (k == 2) = false := by simp; omega
        clear h' k0 k1 k2
        go_enter Try.func42, Try.ntmps42
        go_wp2
        go_ret
        exact ⟨rfl, (Below.refl _ _).alloc (Nat.le_refl _) _⟩
end Go.Proofs.Ytepfpmagppckeaa

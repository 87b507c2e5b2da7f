/- Contracts of the functions of package value (made and checked), over this seat's translation: what each returns, for every argument. Conditions: none. -/
import Derived.Test.YtepfpmagppckeaaVals
import Derived.Deep.QuietTactic
import Derived.BigQuiet
import Derived.RegionTactic
import Derived.Deep.RegionWith
namespace Go.Proofs.Ytepfpmagppckeaa
open Go.ChangeShapes Go.WideShapes Go.ChangeAt Go.RowKit
set_option linter.unusedVariables false
set_option linter.unusedSimpArgs false

theorem null_any (w : World) :
    Calls Try.prog 34 #[] w fun e w' => e = .returned (.agg #[.int .i64 0, .int .i64 0]) ∧ w' = w.alloc (.cells #[.int .i64 0, .int .i64 0] 35) := by
  go_enter Try.func34, Try.ntmps34
  go_wp2
  exact bodyPost_ret (v := .agg #[.int .i64 0, .int .i64 0]) (by simp [results, Try.results34, go_sem]) rfl ⟨rfl, rfl⟩

theorem truth_any (b : Bool) (w : World) :
    Calls Try.prog 32 #[.bool b] w fun e w' => e = .returned (.agg #[.int .i64 2, .int .i64 (if b then 1 else 0)]) ∧ w' = w.alloc (.cells #[.int .i64 2, .int .i64 (if b then 1 else 0)] 35) := by
  cases b
  · go_enter Try.func32, Try.ntmps32
    go_wp2
    exact bodyPost_ret (v := .agg #[.int .i64 2, .int .i64 0]) (by simp [results, Try.results32, go_sem]) rfl ⟨rfl, rfl⟩
  · go_enter Try.func32, Try.ntmps32
    go_wp2
    exact bodyPost_ret (v := .agg #[.int .i64 2, .int .i64 1]) (by simp [results, Try.results32, go_sem]) rfl ⟨rfl, rfl⟩

theorem null_b (w : World) :
    Calls Try.prog 34 #[] w fun e w' => e = .returned (.agg #[.int .i64 0, .int .i64 0]) ∧ Below w.heap.size w w' :=
  (null_any w).mono fun e w' ⟨h1, h2⟩ => ⟨h1, by rw [h2]; exact (Below.refl _ _).alloc (Nat.le_refl _) _⟩

/-- what value.Number says -/
def numK (n : Int) : Int := if -1000000000 ≤ n ∧ n ≤ 1000000000 then 1 else 0
def numN (n : Int) : Int := if -1000000000 ≤ n ∧ n ≤ 1000000000 then n else 0

theorem number_any (n : Int) (w : World) :
    Calls Try.prog 38 #[.int .i64 n] w fun e w' => e = .returned (.agg #[.int .i64 (numK n), .int .i64 (numN n)]) ∧ Below w.heap.size w w' := by
  by_cases h1 : n < -1000000000
  · have e1 : numK n = 0 := by unfold numK; rw [if_neg (by omega)]
    have e2 : numN n = 0 := by unfold numN; rw [if_neg (by omega)]
    rw [e1, e2]; clear e1 e2
    go_enter Try.func38, Try.ntmps38
    go_wp2_with (go_at_call 34; refine (null_any _).mono ?_; rintro e w' ⟨rfl, rfl⟩)
    refine bodyPost_ret (v := .agg #[.int .i64 0, .int .i64 0]) (by simp [results, Try.results38, go_sem]) rfl ⟨rfl, ?_⟩
    repeat (first | exact Below.refl _ _ | refine Below.alloc ?_ (by simp) _ | refine Below.setCell ?_ (by simp) _)
  · by_cases h2 : 1000000000 < n
    · have e1 : numK n = 0 := by unfold numK; rw [if_neg (by omega)]
      have e2 : numN n = 0 := by unfold numN; rw [if_neg (by omega)]
      rw [e1, e2]; clear e1 e2
      go_enter Try.func38, Try.ntmps38
      go_wp2_with (go_at_call 34; refine (null_any _).mono ?_; rintro e w' ⟨rfl, rfl⟩)
      refine bodyPost_ret (v := .agg #[.int .i64 0, .int .i64 0]) (by simp [results, Try.results38, go_sem]) rfl ⟨rfl, ?_⟩
      repeat (first | exact Below.refl _ _ | refine Below.alloc ?_ (by simp) _ | refine Below.setCell ?_ (by simp) _)
    · have e1 : numK n = 1 := by unfold numK; rw [if_pos (by omega)]
      have e2 : numN n = n := by unfold numN; rw [if_pos (by omega)]
      rw [e1, e2]; clear e1 e2
      go_enter Try.func38, Try.ntmps38
      go_wp2
      refine bodyPost_ret (v := .agg #[.int .i64 1, .int .i64 n]) (by simp [results, Try.results38, go_sem]) rfl ⟨rfl, ?_⟩
      repeat (first | exact Below.refl _ _ | refine Below.alloc ?_ (by simp) _ | refine Below.setCell ?_ (by simp) _)

/-- may a value be? -/
def vok (k n : Int) : Bool := decide ((k = 0 ∧ n = 0) ∨ (k = 1 ∧ -1000000000 ≤ n ∧ n ≤ 1000000000) ∨ (k = 2 ∧ (n = 0 ∨ n = 1)))

theorem check_yes (k n : Int) (w : World) (h : vok k n = true) :
    Calls Try.prog 36 #[.agg #[.int .i64 k, .int .i64 n]] w fun e w' => e = .returned .nilIface ∧ Below w.heap.size w w' := by
  have h' := of_decide_eq_true h
  clear h
  rcases h' with ⟨rfl, rfl⟩ | ⟨rfl, h1, h2⟩ | ⟨rfl, rfl | rfl⟩
  all_goals
    go_enter Try.func36, Try.ntmps36
    go_wp2
    go_ret
    exact ⟨rfl, (Below.refl _ _).alloc (Nat.le_refl _) _⟩

theorem check_no (k n : Int) (w : World) (h : vok k n = false) :
    Calls Try.prog 36 #[.agg #[.int .i64 k, .int .i64 n]] w fun e w' => e = .returned (.iface 69 (.int .i64 3)) ∧ Below w.heap.size w w' := by
  have h' := of_decide_eq_false h
  clear h
  by_cases k0 : k = 0
  · subst k0
    have hn : (n == 0) = false := by simp; omega
    clear h'
    go_enter Try.func36, Try.ntmps36
    go_wp2
    go_ret
    exact ⟨rfl, (Below.refl _ _).alloc (Nat.le_refl _) _⟩
  · by_cases k1 : k = 1
    · subst k1
      by_cases l : -1000000000 ≤ n
      · have l2 : decide (n ≤ 1000000000) = false := by simp; omega
        clear h' k0
        go_enter Try.func36, Try.ntmps36
        go_wp2
        go_ret
        exact ⟨rfl, (Below.refl _ _).alloc (Nat.le_refl _) _⟩
      · clear h' k0
        go_enter Try.func36, Try.ntmps36
        go_wp2
        go_ret
        exact ⟨rfl, (Below.refl _ _).alloc (Nat.le_refl _) _⟩
    · by_cases k2 : k = 2
      · subst k2
        have a1 : (n == 0) = false := by simp; omega
        have a2 : (n == 1) = false := by simp; omega
        clear h' k0 k1
        go_enter Try.func36, Try.ntmps36
        go_wp2
        go_ret
        exact ⟨rfl, (Below.refl _ _).alloc (Nat.le_refl _) _⟩
      · have a0 : (k == 0) = false := by simp; omega
        have a1 : (k == 1) = false := by simp; omega
        have a2 : (k == 2) = false := by simp; omega
        clear h' k0 k1 k2
        go_enter Try.func36, Try.ntmps36
        go_wp2
        go_ret
        exact ⟨rfl, (Below.refl _ _).alloc (Nat.le_refl _) _⟩

theorem eql_value (w : World) (a b c d : Int) : (binOp .eql 35 (.agg #[.int .i64 a, .int .i64 b]) (.agg #[.int .i64 c, .int .i64 d])).run Try.prog w = .ok (.bool (a == c && b == d)) w := by
  by_cases h : a = c
  · subst h
    by_cases h2 : b = d
    · subst h2; go_simp
    · have : (b == d) = false := by simp [h2]
      go_simp
  · have : (a == c) = false := by simp [h]
    go_simp

theorem neq_value (w : World) (a b c d : Int) : (binOp .neq 35 (.agg #[.int .i64 a, .int .i64 b]) (.agg #[.int .i64 c, .int .i64 d])).run Try.prog w = .ok (.bool (!(a == c && b == d))) w := by
  by_cases h : a = c
  · subst h
    by_cases h2 : b = d
    · subst h2; go_simp
    · have : (b == d) = false := by simp [h2]
      go_simp
  · have : (a == c) = false := by simp [h]
    go_simp

end Go.Proofs.Ytepfpmagppckeaa

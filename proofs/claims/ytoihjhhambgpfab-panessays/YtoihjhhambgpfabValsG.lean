/- Contracts of value.Null, Number and Check, and of the document's Num and ValueFault, over this seat's translation; values in rows. Conditions: as named. -/
import Derived.Test.YtoihjhhambgpfabBase
namespace Go.Proofs.Ytoihjhhambgpfab
open Go.ChangeShapes Go.WideShapes Go.ChangeAt Go.RowKit
set_option linter.unusedVariables false
set_option linter.unusedSimpArgs false

theorem null_any (w : World) :
    Calls Try.prog 52 #[] w fun e w' => e = .returned (.agg #[.int .i64 0, .int .i64 0]) ∧ w' = w.alloc (.cells #[.int .i64 0, .int .i64 0] 59) := by
  go_enter Try.func52, Try.ntmps52
  go_wp2
  exact bodyPost_ret (v := .agg #[.int .i64 0, .int .i64 0]) (by simp [results, Try.results52, go_sem]) rfl ⟨rfl, rfl⟩

theorem null_b (w : World) :
    Calls Try.prog 52 #[] w fun e w' => e = .returned (.agg #[.int .i64 0, .int .i64 0]) ∧ Below w.heap.size w w' :=
  (null_any w).mono fun e w' ⟨h1, h2⟩ => ⟨h1, by rw [h2]; exact (Below.refl _ _).alloc (Nat.le_refl _) _⟩

def numK (n : Int) : Int := if -1000000000 ≤ n ∧ n ≤ 1000000000 then 1 else 0

def numN (n : Int) : Int := if -1000000000 ≤ n ∧ n ≤ 1000000000 then n else 0

theorem number_any (n : Int) (w : World) :
    Calls Try.prog 46 #[.int .i64 n] w fun e w' => e = .returned (.agg #[.int .i64 (numK n), .int .i64 (numN n)]) ∧ Below w.heap.size w w' := by
  by_cases h1 : n < -1000000000
  · have e1 : numK n = 0 := by unfold numK; rw [if_neg (by omega)]
    have e2 : numN n = 0 := by unfold numN; rw [if_neg (by omega)]
    rw [e1, e2]; clear e1 e2
    go_enter Try.func46, Try.ntmps46
    go_wp2_with (go_at_call 52; refine (null_any _).mono ?_; rintro e w' ⟨rfl, rfl⟩)
    refine bodyPost_ret (v := .agg #[.int .i64 0, .int .i64 0]) (by simp [results, Try.results46, go_sem]) rfl ⟨rfl, ?_⟩
    repeat (first | exact Below.refl _ _ | refine Below.alloc ?_ (by simp) _ | refine Below.setCell ?_ (by simp) _)
  · by_cases h2 : 1000000000 < n
    · have e1 : numK n = 0 := by unfold numK; rw [if_neg (by omega)]
      have e2 : numN n = 0 := by unfold numN; rw [if_neg (by omega)]
      rw [e1, e2]; clear e1 e2
      go_enter Try.func46, Try.ntmps46
      go_wp2_with (go_at_call 52; refine (null_any _).mono ?_; rintro e w' ⟨rfl, rfl⟩)
      refine bodyPost_ret (v := .agg #[.int .i64 0, .int .i64 0]) (by simp [results, Try.results46, go_sem]) rfl ⟨rfl, ?_⟩
      repeat (first | exact Below.refl _ _ | refine Below.alloc ?_ (by simp) _ | refine Below.setCell ?_ (by simp) _)
    · have e1 : numK n = 1 := by unfold numK; rw [if_pos (by omega)]
      have e2 : numN n = n := by unfold numN; rw [if_pos (by omega)]
      rw [e1, e2]; clear e1 e2
      go_enter Try.func46, Try.ntmps46
      go_wp2
      refine bodyPost_ret (v := .agg #[.int .i64 1, .int .i64 n]) (by simp [results, Try.results46, go_sem]) rfl ⟨rfl, ?_⟩
      repeat (first | exact Below.refl _ _ | refine Below.alloc ?_ (by simp) _ | refine Below.setCell ?_ (by simp) _)

def vok (k n : Int) : Bool := decide ((k = 0 ∧ n = 0) ∨ (k = 1 ∧ -1000000000 ≤ n ∧ n ≤ 1000000000) ∨ (k = 2 ∧ (n = 0 ∨ n = 1)))

theorem check_yes (k n : Int) (w : World) (h : vok k n = true) :
    Calls Try.prog 47 #[.agg #[.int .i64 k, .int .i64 n]] w fun e w' => e = .returned .nilIface ∧ Below w.heap.size w w' := by
  have h' := of_decide_eq_true h
  clear h
  rcases h' with ⟨rfl, rfl⟩ | ⟨rfl, h1, h2⟩ | ⟨rfl, rfl | rfl⟩
  all_goals
    go_enter Try.func47, Try.ntmps47
    go_wp2
    go_ret
    exact ⟨rfl, (Below.refl _ _).alloc (Nat.le_refl _) _⟩

theorem check_no (k n : Int) (w : World) (h : vok k n = false) :
    Calls Try.prog 47 #[.agg #[.int .i64 k, .int .i64 n]] w fun e w' => e = .returned (.iface 109 (.int .i64 3)) ∧ Below w.heap.size w w' := by
  have h' := of_decide_eq_false h
  clear h
  by_cases k0 : k = 0
  · subst k0
    have hn : (n == 0) = false := by simp; omega
    clear h'
    go_enter Try.func47, Try.ntmps47
    go_wp2
    go_ret
    exact ⟨rfl, (Below.refl _ _).alloc (Nat.le_refl _) _⟩
  · by_cases k1 : k = 1
    · subst k1
      by_cases l : -1000000000 ≤ n
      · have l2 : decide (n ≤ 1000000000) = false := by simp; omega
        clear h' k0
        go_enter Try.func47, Try.ntmps47
        go_wp2
        go_ret
        exact ⟨rfl, (Below.refl _ _).alloc (Nat.le_refl _) _⟩
      · clear h' k0
        go_enter Try.func47, Try.ntmps47
        go_wp2
        go_ret
        exact ⟨rfl, (Below.refl _ _).alloc (Nat.le_refl _) _⟩
    · by_cases k2 : k = 2
      · subst k2
        have a1 : (n == 0) = false := by simp; omega
        have a2 : (n == 1) = false := by simp; omega
        clear h' k0 k1
        go_enter Try.func47, Try.ntmps47
        go_wp2
        go_ret
        exact ⟨rfl, (Below.refl _ _).alloc (Nat.le_refl _) _⟩
      · have a0 : (k == 0) = false := by simp; omega
        have a1 : (k == 1) = false := by simp; omega
        have a2 : (k == 2) = false := by simp; omega
        clear h' k0 k1 k2
        go_enter Try.func47, Try.ntmps47
        go_wp2
        go_ret
        exact ⟨rfl, (Below.refl _ _).alloc (Nat.le_refl _) _⟩

theorem eql_value (w : World) (a b c d : Int) : (binOp .eql 59 (.agg #[.int .i64 a, .int .i64 b]) (.agg #[.int .i64 c, .int .i64 d])).run Try.prog w = .ok (.bool (a == c && b == d)) w := by
  by_cases h : a = c
  · subst h
    by_cases h2 : b = d
    · subst h2; go_simp
    · have : (b == d) = false := by simp [h2]
      go_simp
  · have : (a == c) = false := by simp [h]
    go_simp

theorem neq_value (w : World) (a b c d : Int) : (binOp .neq 59 (.agg #[.int .i64 a, .int .i64 b]) (.agg #[.int .i64 c, .int .i64 d])).run Try.prog w = .ok (.bool (!(a == c && b == d))) w := by
  by_cases h : a = c
  · subst h
    by_cases h2 : b = d
    · subst h2; go_simp
    · have : (b == d) = false := by simp [h2]
      go_simp
  · have : (a == c) = false := by simp [h]
    go_simp

theorem rnum_any (n : Int) (w : World) :
    Calls Try.prog 53 #[.int .i64 n] w fun e w' => e = .returned (.agg #[.int .i64 (numK n), .int .i64 (numN n)]) ∧ Below w.heap.size w w' := by
  by_cases h1 : n < -1000000000
  · have e1 : numK n = 0 := by unfold numK; rw [if_neg (by omega)]
    have e2 : numN n = 0 := by unfold numN; rw [if_neg (by omega)]
    rw [e1, e2]; clear e1 e2
    go_enter Try.func53, Try.ntmps53
    go_wp2
    refine bodyPost_ret (v := .agg #[.int .i64 0, .int .i64 0]) (by simp [results, Try.results53, go_sem]) rfl ⟨rfl, ?_⟩
    repeat (first | exact Below.refl _ _ | refine Below.alloc ?_ (by simp) _ | refine Below.setCell ?_ (by simp) _)
  · by_cases h2 : 1000000000 < n
    · have e1 : numK n = 0 := by unfold numK; rw [if_neg (by omega)]
      have e2 : numN n = 0 := by unfold numN; rw [if_neg (by omega)]
      rw [e1, e2]; clear e1 e2
      go_enter Try.func53, Try.ntmps53
      go_wp2
      refine bodyPost_ret (v := .agg #[.int .i64 0, .int .i64 0]) (by simp [results, Try.results53, go_sem]) rfl ⟨rfl, ?_⟩
      repeat (first | exact Below.refl _ _ | refine Below.alloc ?_ (by simp) _ | refine Below.setCell ?_ (by simp) _)
    · have e1 : numK n = 1 := by unfold numK; rw [if_pos (by omega)]
      have e2 : numN n = n := by unfold numN; rw [if_pos (by omega)]
      rw [e1, e2]; clear e1 e2
      go_enter Try.func53, Try.ntmps53
      go_wp2
      refine bodyPost_ret (v := .agg #[.int .i64 1, .int .i64 n]) (by simp [results, Try.results53, go_sem]) rfl ⟨rfl, ?_⟩
      repeat (first | exact Below.refl _ _ | refine Below.alloc ?_ (by simp) _ | refine Below.setCell ?_ (by simp) _)

theorem fault_yes (k n : Int) (w : World) (h : vok k n = true) :
    Calls Try.prog 51 #[.agg #[.int .i64 k, .int .i64 n]] w fun e w' => e = .returned (.int .i64 0) ∧ Below w.heap.size w w' := by
  have h' := of_decide_eq_true h
  clear h
  rcases h' with ⟨rfl, rfl⟩ | ⟨rfl, h1, h2⟩ | ⟨rfl, rfl | rfl⟩
  all_goals
    go_enter Try.func51, Try.ntmps51
    go_wp2
    go_ret
    exact ⟨rfl, (Below.refl _ _).alloc (Nat.le_refl _) _⟩

theorem fault_no (k n : Int) (w : World) (h : vok k n = false) :
    Calls Try.prog 51 #[.agg #[.int .i64 k, .int .i64 n]] w fun e w' => e = .returned (.int .i64 3) ∧ Below w.heap.size w w' := by
  have h' := of_decide_eq_false h
  clear h
  by_cases k0 : k = 0
  · subst k0
    have hn : (n == 0) = false := by simp; omega
    clear h'
    go_enter Try.func51, Try.ntmps51
    go_wp2
    go_ret
    exact ⟨rfl, (Below.refl _ _).alloc (Nat.le_refl _) _⟩
  · by_cases k1 : k = 1
    · subst k1
      by_cases l : -1000000000 ≤ n
      · have l2 : decide (n ≤ 1000000000) = false := by simp; omega
        clear h' k0
        go_enter Try.func51, Try.ntmps51
        go_wp2
        go_ret
        exact ⟨rfl, (Below.refl _ _).alloc (Nat.le_refl _) _⟩
      · clear h' k0
        go_enter Try.func51, Try.ntmps51
        go_wp2
        go_ret
        exact ⟨rfl, (Below.refl _ _).alloc (Nat.le_refl _) _⟩
    · by_cases k2 : k = 2
      · subst k2
        have a1 : (n == 0) = false := by simp; omega
        have a2 : (n == 1) = false := by simp; omega
        clear h' k0 k1
        go_enter Try.func51, Try.ntmps51
        go_wp2
        go_ret
        exact ⟨rfl, (Below.refl _ _).alloc (Nat.le_refl _) _⟩
      · have a0 : (k == 0) = false := by simp; omega
        have a1 : (k == 1) = false := by simp; omega
        have a2 : (k == 2) = false := by simp; omega
        clear h' k0 k1 k2
        go_enter Try.func51, Try.ntmps51
        go_wp2
        go_ret
        exact ⟨rfl, (Below.refl _ _).alloc (Nat.le_refl _) _⟩

abbrev V2 := Int × Int

def cellsV (p : V2) : List Value := [.int .i64 p.1, .int .i64 p.2]

def rowV (l : List V2) : List Value := l.flatMap cellsV

theorem rowV_len (l : List V2) : (rowV l).length = l.length * 2 := by
  induction l with
  | nil => rfl
  | cons a l ih =>
    have : rowV (a :: l) = cellsV a ++ rowV l := rfl
    rw [this, List.length_append, ih]
    simp [cellsV]; omega

theorem rowV_app (l m : List V2) : rowV (l ++ m) = rowV l ++ rowV m := by simp [rowV]

theorem rowV_at : ∀ (l : List V2) (i j : Nat) (n : V2), l[i]? = some n → j < 2 → (rowV l)[i * 2 + j]? = (cellsV n)[j]?
  | [], i, j, n, h, _ => by simp at h
  | a :: l, 0, j, n, h, hj => by
    simp at h
    subst h
    have : rowV (a :: l) = cellsV a ++ rowV l := rfl
    rw [this, Nat.zero_mul, Nat.zero_add, List.getElem?_append_left (by simpa [cellsV] using hj)]
  | a :: l, i + 1, j, n, h, hj => by
    simp at h
    have : rowV (a :: l) = cellsV a ++ rowV l := rfl
    rw [this, List.getElem?_append_right (by simp [cellsV]; omega)]
    have hc : (cellsV a).length = 2 := rfl
    rw [hc, show (i + 1) * 2 + j - 2 = i * 2 + j from by omega]
    exact rowV_at l i j n h hj

theorem rowV_val {w : World} {l : List V2} {ao : Option Addr} {cap : Nat} (h : RowG w (.slice ao l.length cap) 2 l.length (rowV l)) (i : Nat) (hi : i < l.length) :
    ∃ g off, ao = some ⟨g, off, none⟩ ∧ w.cell? ⟨g, off + i * 2, none⟩ = some (.int .i64 l[i].1) ∧ w.cell? ⟨g, off + i * 2 + 1, none⟩ = some (.int .i64 l[i].2) ∧ l.length ≤ cap ∧ cap ≤ maxLen ∧ g < w.heap.size := by
  obtain ⟨h0, h⟩ := h
  rcases h with ⟨-, h⟩ | ⟨g, off, cap', e, h1, h2, h3, h4⟩
  · omega
  · simp only [Value.slice.injEq] at e
    obtain ⟨rfl, -, rfl⟩ := e
    have hc : ∀ j, j < 2 → w.cell? ⟨g, off + i * 2 + j, none⟩ = (cellsV l[i])[j]? := fun j hj => by
      rw [Nat.add_assoc, h4 (i * 2 + j) (by omega), rowV_at l i j l[i] (List.getElem?_eq_getElem hi) hj]
    exact ⟨g, off, rfl, hc 0 (by omega), hc 1 (by omega), h1, h2, h3⟩
end Go.Proofs.Ytoihjhhambgpfab

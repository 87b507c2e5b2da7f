/- Contracts of valueAt and evalNode of package expr, over this seat's translation. Conditions: the values may be. -/
import Derived.Test.YtepfpmagppckeaaExpr4
namespace Go.Proofs.Ytepfpmagppckeaa
open Go.ChangeShapes Go.WideShapes Go.ChangeAt Go.RowKit
set_option linter.unusedVariables false
set_option linter.unusedSimpArgs false
attribute [local go_sem ↓] eql_value neq_value

def cellsV (p : V2) : List Value := [.int .i64 p.1, .int .i64 p.2]
def rowV (l : List V2) : List Value := l.flatMap cellsV
def aggV (p : V2) : Value := .agg #[.int .i64 p.1, .int .i64 p.2]
def okV (p : V2) : Prop := vok p.1 p.2 = true

theorem rowV_len (l : List V2) : (rowV l).length = l.length * 2 := by
  induction l with
  | nil => rfl
  | cons a l ih =>
    have : rowV (a :: l) = cellsV a ++ rowV l := rfl
    rw [this, List.length_append, ih]
    simp [cellsV]; omega
theorem rowV_app (l m : List V2) : rowV (l ++ m) = rowV l ++ rowV m := by simp [rowV]
theorem rowV_at : ∀ (l : List V2) (i j : Nat) (n : V2), l[i]? = some n → j < 2 → (rowV l)[i * 2 + j]? = (cellsV n)[j]?
  | [], i, j, n, h, _ => by simp at h
  | a :: l, 0, j, n, h, hj => by
    simp at h
    subst h
    have : rowV (a :: l) = cellsV a ++ rowV l := rfl
    rw [this, Nat.zero_mul, Nat.zero_add, List.getElem?_append_left (by simpa [cellsV] using hj)]
  | a :: l, i + 1, j, n, h, hj => by
    simp at h
    have : rowV (a :: l) = cellsV a ++ rowV l := rfl
    rw [this, List.getElem?_append_right (by simp [cellsV]; omega)]
    have hc : (cellsV a).length = 2 := rfl
    rw [hc, show (i + 1) * 2 + j - 2 = i * 2 + j from by omega]
    exact rowV_at l i j n h hj

theorem rowV_val {w : World} {l : List V2} {ao : Option Addr} {cap : Nat} (h : RowG w (.slice ao l.length cap) 2 l.length (rowV l)) (i : Nat) (hi : i < l.length) :
    ∃ g off, ao = some ⟨g, off, none⟩ ∧ w.cell? ⟨g, off + i * 2, none⟩ = some (.int .i64 l[i].1) ∧ w.cell? ⟨g, off + i * 2 + 1, none⟩ = some (.int .i64 l[i].2) ∧ l.length ≤ cap ∧ cap ≤ maxLen ∧ g < w.heap.size := by
  obtain ⟨h0, h⟩ := h
  rcases h with ⟨-, h⟩ | ⟨g, off, cap', e, h1, h2, h3, h4⟩
  · omega
  · simp only [Value.slice.injEq] at e
    obtain ⟨rfl, -, rfl⟩ := e
    have hc : ∀ j, j < 2 → w.cell? ⟨g, off + i * 2 + j, none⟩ = (cellsV l[i])[j]? := fun j hj => by
      rw [Nat.add_assoc, h4 (i * 2 + j) (by omega), rowV_at l i j l[i] (List.getElem?_eq_getElem hi) hj]
    exact ⟨g, off, rfl, hc 0 (by omega), hc 1 (by omega), h1, h2, h3⟩

theorem nth_in (vs : List V2) (i : Nat) (h : i < vs.length) : nth vs (i : Int) = vs[i] := by
  unfold nth
  rw [if_neg (by omega), List.getD_eq_getElem?_getD, Int.toNat_natCast, List.getElem?_eq_getElem h]; rfl
theorem nth_out (vs : List V2) (i : Int) (h : i < 0 ∨ (vs.length : Int) ≤ i) : nth vs i = (0, 0) := by
  unfold nth
  rw [if_pos h]

theorem valueAt_any (vs : List V2) (v : Value) (at_ : Int) (w : World) (hl : vs.length ≤ 1000) (hr : RowG w v 2 vs.length (rowV vs)) :
    Calls Try.prog 49 #[v, .int .i64 at_] w fun e w' => e = .returned (aggV (nth vs at_)) ∧ Below w.heap.size w w' := by
  obtain ⟨ao, cap, rfl⟩ := rowG_shape hr
  by_cases h : at_ < 0 ∨ (vs.length : Int) ≤ at_
  · rw [nth_out vs at_ h]
    by_cases h1 : at_ < 0
    · clear h hr
      go_enter Try.func49, Try.ntmps49
      go_wp2_with (go_at_call 34; refine (null_any _).mono ?_; rintro e w' ⟨rfl, rfl⟩)
      refine bodyPost_ret (v := .agg #[.int .i64 0, .int .i64 0]) (by simp [results, Try.results49, go_sem]) rfl ⟨rfl, ?_⟩
      repeat (first | exact Below.refl _ _ | assumption | refine Below.drew ?_ | refine Below.alloc ?_ (by simp <;> omega) _ | refine Below.setCell ?_ (by simp <;> omega) _)
    · have h2 : (vs.length : Int) ≤ at_ := by omega
      have h3 : 0 ≤ at_ := by omega
      clear h hr h1
      go_enter Try.func49, Try.ntmps49
      go_wp2_with (go_at_call 34; refine (null_any _).mono ?_; rintro e w' ⟨rfl, rfl⟩)
      refine bodyPost_ret (v := .agg #[.int .i64 0, .int .i64 0]) (by simp [results, Try.results49, go_sem]) rfl ⟨rfl, ?_⟩
      repeat (first | exact Below.refl _ _ | assumption | refine Below.drew ?_ | refine Below.alloc ?_ (by simp <;> omega) _ | refine Below.setCell ?_ (by simp <;> omega) _)
  · obtain ⟨i, rfl⟩ : ∃ i : Nat, at_ = (i : Int) := ⟨at_.toNat, by omega⟩
    have hi : i < vs.length := by omega
    obtain ⟨g, off, rfl, c1, c2, l1, l2, l3⟩ := rowV_val hr i hi
    rw [nth_in vs i hi]
    unfold aggV
    generalize vs[i] = p at *
    obtain ⟨p1, p2⟩ := p
    simp only at c1 c2 ⊢
    unfold maxLen at l2
    clear hr h
    go_enter Try.func49, Try.ntmps49
    go_wp2_with fail
    refine bodyPost_ret (v := .agg #[.int .i64 p1, .int .i64 p2]) (by simp [results, Try.results49, go_sem]) rfl ⟨rfl, ?_⟩
    repeat (first | exact Below.refl _ _ | assumption | refine Below.drew ?_ | refine Below.alloc ?_ (by simp <;> omega) _ | refine Below.setCell ?_ (by simp <;> omega) _)

/-- what is done with one, or two -/
def opV (op : Int) (x y : V2) : V2 := if op = 3 then negV x.1 x.2 else if op = 4 then notV x.1 x.2 else if op = 5 then tru (x.1 == 0 && x.2 == 0) else doV op x.1 x.2 y.1 y.2

theorem okV_lo {p : V2} (h : okV p) : -1000000000 ≤ p.2 ∧ p.2 ≤ 1000000000 := by
  have := of_decide_eq_true h
  omega
theorem ok_num (n : Int) : okV (numV n) := by
  unfold okV numV numK numN vok
  simp only [decide_eq_true_eq]
  by_cases h : -1000000000 ≤ n ∧ n ≤ 1000000000
  · simp only [if_pos h]; exact .inr (.inl ⟨trivial, h⟩)
  · simp only [if_neg h]; exact .inl ⟨trivial, trivial⟩
theorem ok_tru (b : Bool) : okV (tru b) := by cases b <;> exact rfl
theorem ok_zero : okV (0, 0) := rfl
theorem ok_and (k1 n1 k2 n2 : Int) : okV (andK k1 n1 k2 n2, andN k1 n1 k2 n2) := by
  unfold okV andK andN
  cases (isF k1 n1 || isF k2 n2) <;> cases (isT k1 n1 && isT k2 n2) <;> exact rfl
theorem ok_or (k1 n1 k2 n2 : Int) : okV (orK k1 n1 k2 n2, orN k1 n1 k2 n2) := by
  unfold okV orK orN
  cases (isT k1 n1 || isT k2 n2) <;> cases (isF k1 n1 && isF k2 n2) <;> exact rfl
theorem ok_do (op : Int) (x y : V2) : okV (doV op x.1 x.2 y.1 y.2) := by
  unfold doV
  repeat' split
  all_goals first | exact ok_and _ _ _ _ | exact ok_or _ _ _ _ | exact ok_num _ | exact ok_tru _ | exact ok_zero
theorem ok_op (op : Int) (x y : V2) : okV (opV op x y) := by
  unfold opV negV notV
  repeat' split
  all_goals first | exact ok_num _ | exact ok_tru _ | exact ok_zero | exact ok_do _ _ _
theorem ok_nth {vs : List V2} (h : ∀ p ∈ vs, okV p) (i : Int) : okV (nth vs i) := by
  unfold nth
  split
  · exact ok_zero
  · rw [List.getD_eq_getElem?_getD]
    cases hh : vs[i.toNat]? with
    | none => exact ok_zero
    | some p => exact h p (List.mem_of_getElem? hh)
theorem okN_val {n : Nd} (h : okN n = 0) : okV (n.k, n.v) := by
  unfold okN at h
  by_cases hh : badN n
  · simp [hh] at h
  · rw [if_neg hh] at h
    by_cases h3 : n.n < 0 ∨ 4 ≤ n.n
    · simp [h3] at h
    · rw [if_neg h3] at h
      by_cases hv : vokB n.k n.v = true
      · exact hv
      · rw [if_neg hv] at h; exact absurd h (by decide)
theorem ok_evN {ev : List V2} {n : Nd} {vs : List V2} (hev : ∀ p ∈ ev, okV p) (hn : okN n = 0) : okV (evN opV ev n vs) := by
  unfold evN
  repeat' split
  all_goals first | exact okN_val hn | exact ok_nth hev _ | exact ok_op _ _ _
end Go.Proofs.Ytepfpmagppckeaa

/- Plain facts of what is gathered: the order in which values come changes nothing, and the document's way gives the same. Conditions: none. -/
import Derived.ProofKit
import Derived.RowKit
namespace Go.Proofs.YtaomljdbndajgaaGreatDoor
set_option linter.unusedVariables false

def gstep (kind : Int) (a : Int × Int × Int) (v : Int × Int) : Int × Int × Int :=
  if v.1 = 0 ∧ kind ≠ 1 then a
  else if kind = 1 ∨ kind = 2 then (a.1 + 1, a.2.1, a.2.2)
  else if kind = 3 then (1, RowKit.wrap64 (a.2.1 + v.2), a.2.2)
  else if kind = 4 then if a.1 = 0 ∨ v.2 < a.2.2 then (1, a.2.1, v.2) else a
  else if kind = 5 then if a.1 = 0 ∨ a.2.2 < v.2 then (1, a.2.1, v.2) else a
  else a
theorem wrap_two (s a b : Int) : RowKit.wrap64 (RowKit.wrap64 (s + a) + b) = RowKit.wrap64 (RowKit.wrap64 (s + b) + a) := by
  unfold RowKit.wrap64
  omega

theorem gstep_comm (kind : Int) (a : Int × Int × Int) (v u : Int × Int) : gstep kind (gstep kind a v) u = gstep kind (gstep kind a u) v := by
  obtain ⟨n, s, b⟩ := a
  obtain ⟨v1, v2⟩ := v
  obtain ⟨u1, u2⟩ := u
  by_cases k1 : kind = 1
  · subst k1; simp [gstep]
  by_cases k2 : kind = 2
  · subst k2
    simp only [gstep]
    by_cases h1 : v1 = 0 <;> by_cases h2 : u1 = 0 <;> simp [h1, h2]
  by_cases k3 : kind = 3
  · subst k3
    simp only [gstep]
    by_cases h1 : v1 = 0 <;> by_cases h2 : u1 = 0 <;> simp [h1, h2]
    exact wrap_two s v2 u2
  by_cases k4 : kind = 4
  · subst k4
    simp only [gstep]
    by_cases h1 : v1 = 0 <;> by_cases h2 : u1 = 0 <;> simp [h1, h2]
    by_cases h3 : n = 0 <;> simp [h3]
    · by_cases h4 : u2 < v2 <;> by_cases h5 : v2 < u2 <;> simp [h4, h5] <;> omega
    · by_cases h4 : v2 < b <;> by_cases h5 : u2 < b <;> by_cases h6 : u2 < v2 <;> by_cases h7 : v2 < u2 <;> simp [h3, h4, h5, h6, h7] <;> omega
  by_cases k5 : kind = 5
  · subst k5
    simp only [gstep]
    by_cases h1 : v1 = 0 <;> by_cases h2 : u1 = 0 <;> simp [h1, h2]
    by_cases h3 : n = 0 <;> simp [h3]
    · by_cases h4 : u2 < v2 <;> by_cases h5 : v2 < u2 <;> simp [h4, h5] <;> omega
    · by_cases h4 : b < v2 <;> by_cases h5 : b < u2 <;> by_cases h6 : u2 < v2 <;> by_cases h7 : v2 < u2 <;> simp [h3, h4, h5, h6, h7] <;> omega
  simp [gstep, k1, k2, k3, k4, k5]

theorem gstep_n (kind : Int) (a : Int × Int × Int) (v : Int × Int) (h : 0 ≤ a.1) : 0 ≤ (gstep kind a v).1 ∧ (gstep kind a v).1 ≤ a.1 + 1 := by
  unfold gstep
  repeat' split
  all_goals first | omega | (simp only; omega)
theorem snocInd {α : Type} {P : List α → Prop} (h0 : P []) (h1 : ∀ l v, P l → P (l ++ [v])) (l : List α) : P l := by
  rw [← List.reverse_reverse l]
  induction l.reverse with
  | nil => exact h0
  | cons x r ih =>
    rw [List.reverse_cons]
    exact h1 _ _ ih
end Go.Proofs.YtaomljdbndajgaaGreatDoor

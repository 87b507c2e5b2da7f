/- Plain facts of what is gathered: the order in which values come changes nothing, and the document's way gives the same. Conditions: none. -/
import Derived.ProofKit
import Derived.RowKit
namespace Go.Proofs.Ytoihjhhambgpfab
set_option linter.unusedVariables false

def gstep (kind : Int) (a : Int × Int × Int) (v : Int × Int) : Int × Int × Int :=
  if v.1 = 0 ∧ kind ≠ 1 then a
  else if kind = 1 ∨ kind = 2 then (a.1 + 1, a.2.1, a.2.2)
  else if kind = 3 then (1, RowKit.wrap64 (a.2.1 + v.2), a.2.2)
  else if kind = 4 then if a.1 = 0 ∨ v.2 < a.2.2 then (1, a.2.1, v.2) else a
  else if kind = 5 then if a.1 = 0 ∨ a.2.2 < v.2 then (1, a.2.1, v.2) else a
  else a
def gfold (kind : Int) (l : List (Int × Int)) : Int × Int × Int := l.foldl (gstep kind) (0, 0, 0)

theorem wrap_two (s a b : Int) : RowKit.wrap64 (RowKit.wrap64 (s + a) + b) = RowKit.wrap64 (RowKit.wrap64 (s + b) + a) := by
  unfold RowKit.wrap64
  omega

theorem gstep_comm (kind : Int) (a : Int × Int × Int) (v u : Int × Int) : gstep kind (gstep kind a v) u = gstep kind (gstep kind a u) v := by
  obtain ⟨n, s, b⟩ := a
  obtain ⟨v1, v2⟩ := v
  obtain ⟨u1, u2⟩ := u
  by_cases k1 : kind = 1
  · subst k1; simp [gstep]
  by_cases k2 : kind = 2
  · subst k2
    simp only [gstep]
    by_cases h1 : v1 = 0 <;> by_cases h2 : u1 = 0 <;> simp [h1, h2]
  by_cases k3 : kind = 3
  · subst k3
    simp only [gstep]
    by_cases h1 : v1 = 0 <;> by_cases h2 : u1 = 0 <;> simp [h1, h2]
    exact wrap_two s v2 u2
  by_cases k4 : kind = 4
  · subst k4
    simp only [gstep]
    by_cases h1 : v1 = 0 <;> by_cases h2 : u1 = 0 <;> simp [h1, h2]
    by_cases h3 : n = 0 <;> simp [h3]
    · by_cases h4 : u2 < v2 <;> by_cases h5 : v2 < u2 <;> simp [h4, h5] <;> omega
    · by_cases h4 : v2 < b <;> by_cases h5 : u2 < b <;> by_cases h6 : u2 < v2 <;> by_cases h7 : v2 < u2 <;> simp [h3, h4, h5, h6, h7] <;> omega
  by_cases k5 : kind = 5
  · subst k5
    simp only [gstep]
    by_cases h1 : v1 = 0 <;> by_cases h2 : u1 = 0 <;> simp [h1, h2]
    by_cases h3 : n = 0 <;> simp [h3]
    · by_cases h4 : u2 < v2 <;> by_cases h5 : v2 < u2 <;> simp [h4, h5] <;> omega
    · by_cases h4 : b < v2 <;> by_cases h5 : b < u2 <;> by_cases h6 : u2 < v2 <;> by_cases h7 : v2 < u2 <;> simp [h3, h4, h5, h6, h7] <;> omega
  simp [gstep, k1, k2, k3, k4, k5]

theorem foldl_out (kind : Int) (l : List (Int × Int)) (a : Int × Int × Int) (v : Int × Int) : l.foldl (gstep kind) (gstep kind a v) = gstep kind (l.foldl (gstep kind) a) v := by
  induction l generalizing a with
  | nil => rfl
  | cons x l ih => rw [List.foldl_cons, gstep_comm, ih, List.foldl_cons]
theorem gfold_rev (kind : Int) (l : List (Int × Int)) : gfold kind l.reverse = gfold kind l := by
  unfold gfold
  induction l with
  | nil => rfl
  | cons x l ih =>
    rw [List.reverse_cons, List.foldl_append, ih, List.foldl_cons (l := l), foldl_out]
    rfl
theorem gfold_snoc (kind : Int) (l : List (Int × Int)) (v : Int × Int) : gfold kind (l ++ [v]) = gstep kind (gfold kind l) v := by
  unfold gfold
  rw [List.foldl_append]
  rfl
theorem gstep_n (kind : Int) (a : Int × Int × Int) (v : Int × Int) (h : 0 ≤ a.1) : 0 ≤ (gstep kind a v).1 ∧ (gstep kind a v).1 ≤ a.1 + 1 := by
  unfold gstep
  repeat' split
  all_goals first | omega | (simp only; omega)
theorem snocInd {α : Type} {P : List α → Prop} (h0 : P []) (h1 : ∀ l v, P l → P (l ++ [v])) (l : List α) : P l := by
  rw [← List.reverse_reverse l]
  induction l.reverse with
  | nil => exact h0
  | cons x r ih =>
    rw [List.reverse_cons]
    exact h1 _ _ ih
theorem gfold_n (kind : Int) (l : List (Int × Int)) : 0 ≤ (gfold kind l).1 ∧ (gfold kind l).1 ≤ l.length := by
  refine snocInd (P := fun l => 0 ≤ (gfold kind l).1 ∧ (gfold kind l).1 ≤ l.length) ⟨by simp [gfold], by simp [gfold]⟩ (fun l v ih => ?_) l
  rw [gfold_snoc]
  have := gstep_n kind (gfold kind l) v ih.1
  simp only [List.length_append, List.length_cons, List.length_nil]
  omega

/-- the document's way -/
def rstep (kind : Int) (a : Int × Int × Int) (v : Int × Int) : Int × Int × Int :=
  if kind ≠ 1 ∧ v.1 = 0 then a
  else (a.1 + 1, RowKit.wrap64 (a.2.1 + v.2), if a.1 = 0 ∨ (kind = 4 ∧ v.2 < a.2.2) ∨ (kind = 5 ∧ a.2.2 < v.2) then v.2 else a.2.2)
def rfold (kind : Int) (l : List (Int × Int)) : Int × Int × Int := l.foldl (rstep kind) (0, 0, 0)
theorem rfold_snoc (kind : Int) (l : List (Int × Int)) (v : Int × Int) : rfold kind (l ++ [v]) = rstep kind (rfold kind l) v := by
  unfold rfold
  rw [List.foldl_append]
  rfl
def Rel (kind : Int) (a r : Int × Int × Int) : Prop :=
  0 ≤ r.1 ∧ (kind ≤ 2 → a.1 = r.1) ∧ (2 < kind → (a.1 = 0 ↔ r.1 = 0)) ∧ (kind = 3 → a.2.1 = r.2.1) ∧ (3 < kind → r.1 ≠ 0 → a.2.2 = r.2.2)
theorem rel_step (kind : Int) (k1 : 1 ≤ kind) (k5 : kind ≤ 5) (a r : Int × Int × Int) (v : Int × Int) (h : Rel kind a r) : Rel kind (gstep kind a v) (rstep kind r v) := by
  obtain ⟨n, s, b⟩ := a
  obtain ⟨n', s', b'⟩ := r
  obtain ⟨v1, v2⟩ := v
  unfold Rel at h ⊢
  simp only at h
  obtain ⟨h0, h1, h2, h3, h4⟩ := h
  have hk : kind = 1 ∨ kind = 2 ∨ kind = 3 ∨ kind = 4 ∨ kind = 5 := by omega
  by_cases hv : v1 = 0
  · rcases hk with rfl | rfl | rfl | rfl | rfl
    all_goals
      simp [gstep, rstep, hv] at h1 h2 h3 h4 ⊢
      first | omega | (refine ⟨h0, ?_⟩; first | omega | exact h2 | exact ⟨h2, h3⟩ | exact ⟨h2, h4⟩)
  · rcases hk with rfl | rfl | rfl | rfl | rfl
    · simp [gstep, rstep, hv] at h1 ⊢; omega
    · simp [gstep, rstep, hv] at h1 ⊢; omega
    · simp [gstep, rstep, hv] at h3 ⊢
      subst h3
      exact ⟨by omega, by omega, rfl⟩
    · simp [gstep, rstep, hv] at h2 h4 ⊢
      by_cases hn : n = 0
      · have := h2.1 hn
        simp [hn, this]
      · have hn' : ¬ n' = 0 := fun e => hn (h2.2 e)
        have := h4 hn'
        subst this
        by_cases hb : v2 < b <;> simp [hn, hn', hb] <;> omega
    · simp [gstep, rstep, hv] at h2 h4 ⊢
      by_cases hn : n = 0
      · have := h2.1 hn
        simp [hn, this]
      · have hn' : ¬ n' = 0 := fun e => hn (h2.2 e)
        have := h4 hn'
        subst this
        by_cases hb : b < v2 <;> simp [hn, hn', hb] <;> omega
theorem rel_fold (kind : Int) (k1 : 1 ≤ kind) (k5 : kind ≤ 5) (l : List (Int × Int)) : Rel kind (gfold kind l) (rfold kind l) := by
  refine snocInd (P := fun l => Rel kind (gfold kind l) (rfold kind l)) (by unfold Rel gfold rfold; simp) (fun l v ih => ?_) l
  rw [gfold_snoc, rfold_snoc]
  exact rel_step kind k1 k5 _ _ v ih
theorem rfold_n (kind : Int) (l : List (Int × Int)) : 0 ≤ (rfold kind l).1 ∧ (rfold kind l).1 ≤ l.length := by
  refine snocInd (P := fun l => 0 ≤ (rfold kind l).1 ∧ (rfold kind l).1 ≤ l.length) ⟨by simp [rfold], by simp [rfold]⟩ (fun l v ih => ?_) l
  rw [rfold_snoc]
  simp only [List.length_append, List.length_cons, List.length_nil]
  unfold rstep
  split
  · omega
  · simp only
    omega
end Go.Proofs.Ytoihjhhambgpfab

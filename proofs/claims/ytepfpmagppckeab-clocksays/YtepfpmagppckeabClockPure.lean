/- Plain facts of clocks: what is seen, in any order, gives the same; the least of them grows. Conditions: none. -/
import Derived.ProofKit
namespace Go.Proofs.Ytepfpmagppckeab
set_option linter.unusedVariables false

def seeL (G : List Int) (p : Nat) (t : Int) : List Int := G.set p (max (G.getD p 0) t)
def noneL (n : Nat) : List Int := List.replicate n (-1)
def seenL (n : Nat) (l : List (Nat × Int)) : List Int := l.foldl (fun G x => seeL G x.1 x.2) (noneL n)

theorem see_len (G : List Int) (p : Nat) (t : Int) : (seeL G p t).length = G.length := by simp [seeL]
theorem none_len (n : Nat) : (noneL n).length = n := by simp [noneL]
theorem see_get (G : List Int) (p : Nat) (t : Int) (i : Nat) (hi : i < G.length) : (seeL G p t).getD i 0 = if i = p then max (G.getD p 0) t else G.getD i 0 := by
  unfold seeL
  rw [List.getD_eq_getElem?_getD, List.getElem?_set]
  by_cases h : p = i
  · subst h
    simp [hi]
  · have h' : ¬ i = p := fun e => h e.symm
    simp [h, h', List.getD_eq_getElem?_getD]
theorem nums_ext {A B : List Int} (h : A.length = B.length) (hk : ∀ i, i < A.length → A.getD i 0 = B.getD i 0) : A = B := by
  apply List.ext_getElem h
  intro i h1 h2
  have := hk i h1
  simpa [List.getD, h1, h2] using this
theorem see_comm (G : List Int) (p q : Nat) (t u : Int) : seeL (seeL G p t) q u = seeL (seeL G q u) p t := by
  refine nums_ext (by simp [see_len]) fun i hi => ?_
  simp only [see_len] at hi
  rw [see_get (seeL G p t) q u i (by rw [see_len]; exact hi), see_get (seeL G q u) p t i (by rw [see_len]; exact hi)]
  by_cases h1 : i = q <;> by_cases h2 : i = p
  · subst h1; subst h2
    rw [see_get G i t i hi, see_get G i u i hi]
    simp
    omega
  · subst h1
    rw [see_get G p t i hi, see_get G i u i hi]
    simp [h2]
  · subst h2
    rw [see_get G i t i hi, see_get G q u i hi]
    simp [h1]
  · rw [see_get G p t i hi, see_get G q u i hi]
    simp [h1, h2]
theorem seen_out (l : List (Nat × Int)) (G : List Int) (p : Nat) (t : Int) : l.foldl (fun G x => seeL G x.1 x.2) (seeL G p t) = seeL (l.foldl (fun G x => seeL G x.1 x.2) G) p t := by
  induction l generalizing G with
  | nil => rfl
  | cons x l ih => rw [List.foldl_cons, see_comm, ih, List.foldl_cons]
theorem seen_rev (n : Nat) (l : List (Nat × Int)) : seenL n l.reverse = seenL n l := by
  unfold seenL
  induction l with
  | nil => rfl
  | cons x l ih =>
    rw [List.reverse_cons, List.foldl_append, ih, List.foldl_cons (l := l), seen_out]
    rfl
theorem seen_snoc (n : Nat) (l : List (Nat × Int)) (x : Nat × Int) : seenL n (l ++ [x]) = seeL (seenL n l) x.1 x.2 := by
  unfold seenL
  rw [List.foldl_append]
  rfl
theorem seen_len (n : Nat) (l : List (Nat × Int)) : (seenL n l).length = n := by
  unfold seenL
  suffices h : ∀ G : List Int, (l.foldl (fun G x => seeL G x.1 x.2) G).length = G.length by rw [h, none_len]
  induction l with
  | nil => intro G; rfl
  | cons x l ih => intro G; rw [List.foldl_cons, ih, see_len]

def minOf : List Int → Int
  | [] => 0
  | [a] => a
  | a :: b :: l => min a (minOf (b :: l))
theorem min_le : ∀ (G : List Int) (i : Nat), i < G.length → minOf G ≤ G.getD i 0
  | [], i, h => by simp at h
  | [a], i, h => by
    have : i = 0 := by simp at h; omega
    subst this
    simp [minOf]
  | a :: b :: l, 0, h => by simp [minOf]; omega
  | a :: b :: l, i + 1, h => by
    have := min_le (b :: l) i (by simpa using h)
    simp only [minOf, List.getD_cons_succ]
    omega
theorem min_at : ∀ (G : List Int), 0 < G.length → ∃ i, i < G.length ∧ minOf G = G.getD i 0
  | [], h => by simp at h
  | [a], h => ⟨0, by simp, by simp [minOf]⟩
  | a :: b :: l, h => by
    obtain ⟨i, hi, he⟩ := min_at (b :: l) (by simp)
    by_cases hab : a ≤ minOf (b :: l)
    · exact ⟨0, by simp, by simp only [minOf, List.getD_cons_zero]; omega⟩
    · refine ⟨i + 1, by simpa using hi, ?_⟩
      simp only [minOf, List.getD_cons_succ]
      omega
theorem min_is {G : List Int} {i : Nat} (hi : i < G.length) (h : ∀ j, j < G.length → G.getD i 0 ≤ G.getD j 0) : minOf G = G.getD i 0 := by
  have h1 := min_le G i hi
  obtain ⟨j, hj, he⟩ := min_at G (by omega)
  have := h j hj
  omega
theorem min_grows {G : List Int} {p : Nat} {t : Int} (h : 0 < G.length) : minOf G ≤ minOf (seeL G p t) := by
  obtain ⟨j, hj, he⟩ := min_at (seeL G p t) (by rw [see_len]; exact h)
  rw [see_len] at hj
  rw [he, see_get _ _ _ _ hj]
  have := min_le G j hj
  split
  · subst_vars
    omega
  · exact this
end Go.Proofs.Ytepfpmagppckeab

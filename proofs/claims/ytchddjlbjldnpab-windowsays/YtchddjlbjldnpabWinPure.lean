/- Plain facts of windows: the numbers that window.Starts lists are the multiples of the slide that a time's windows begin at. Conditions: a time, a size and a slide that may be. -/
import Derived.ProofKit
namespace Go.Proofs.Ytchddjlbjldnpab
set_option linter.unusedVariables false

/-- a time, a size and a slide that may be -/
def MayW (at_ size slide : Int) : Prop := 0 ≤ at_ ∧ at_ ≤ 9999 ∧ 1 ≤ slide ∧ slide ≤ size ∧ size ≤ 1000 ∧ size ≤ 4 * slide

def winQ (at_ size slide : Int) : Int := (size - 1 - at_.tmod slide).tdiv slide
def winF (at_ size slide : Int) : Int := at_ - at_.tmod slide - winQ at_ size slide * slide
def winK (at_ size slide : Int) : Nat := (winQ at_ size slide).toNat + 1
/-- the first n of f, f + slide, .. -/
def stepsL (f slide : Int) (n : Nat) : List Int := (List.range n).map (fun (i : Nat) => f + (i : Int) * slide)
def winL (at_ size slide : Int) : List Int := stepsL (winF at_ size slide) slide (winK at_ size slide)

theorem steps_len (f slide : Int) (n : Nat) : (stepsL f slide n).length = n := by simp [stepsL]
theorem steps_succ (f slide : Int) (n : Nat) : stepsL f slide (n + 1) = stepsL f slide n ++ [f + (n : Int) * slide] := by
  simp [stepsL, List.range_succ]
theorem steps_get (f slide : Int) (n i : Nat) (h : i < n) : (stepsL f slide n).getD i 0 = f + (i : Int) * slide := by
  simp [stepsL, List.getD, h]

theorem win_mod {a s : Int} (ha : 0 ≤ a) (hs : 1 ≤ s) : 0 ≤ a.tmod s ∧ a.tmod s < s ∧ a.tmod s ≤ a ∧ ∃ c, 0 ≤ c ∧ a - a.tmod s = c * s := by
  have h1 := Int.tmod_nonneg s ha
  have h2 := Int.tmod_lt_of_pos a (by omega : 0 < s)
  have h3 := Int.mul_tdiv_add_tmod a s
  have h4 : 0 ≤ a.tdiv s := Int.tdiv_nonneg ha (by omega)
  have h5 : 0 ≤ s * a.tdiv s := Int.mul_nonneg (by omega) h4
  refine ⟨h1, h2, by omega, a.tdiv s, h4, ?_⟩
  rw [Int.mul_comm]
  omega

/-- what is known of the first one and of how many -/
theorem win_facts {a z s : Int} (h : MayW a z s) : 0 ≤ winQ a z s ∧ winQ a z s ≤ 3 ∧ 0 ≤ winQ a z s * s ∧ winQ a z s * s ≤ z - 1 - a.tmod s ∧ z - 1 - a.tmod s < winQ a z s * s + s := by
  obtain ⟨a0, a1, s1, sz, z1, z4⟩ := h
  obtain ⟨m0, m1, m2, -⟩ := win_mod a0 s1
  have h0 : 0 ≤ z - 1 - a.tmod s := by omega
  have h1 := Int.tmod_nonneg s h0
  have h2 := Int.tmod_lt_of_pos (z - 1 - a.tmod s) (by omega : 0 < s)
  have h3 := Int.mul_tdiv_add_tmod (z - 1 - a.tmod s) s
  have h4 : 0 ≤ (z - 1 - a.tmod s).tdiv s := Int.tdiv_nonneg h0 (by omega)
  have h5 : 0 ≤ s * (z - 1 - a.tmod s).tdiv s := Int.mul_nonneg (by omega) h4
  unfold winQ
  rw [Int.mul_comm]
  refine ⟨h4, ?_, by omega, by omega, by omega⟩
  have h6 : s * (z - 1 - a.tmod s).tdiv s < s * 4 := by omega
  have := Int.lt_of_mul_lt_mul_left h6 (by omega)
  omega

theorem winK_is {a z s : Int} (h : MayW a z s) : (winK a z s : Int) = winQ a z s + 1 ∧ winK a z s ≤ 4 ∧ 0 < winK a z s := by
  have := win_facts h
  unfold winK
  omega

theorem winF_mul {a z s : Int} (h : MayW a z s) : ∃ c, winF a z s = c * s := by
  obtain ⟨a0, a1, s1, -⟩ := h
  obtain ⟨-, -, -, c, -, hc⟩ := win_mod a0 s1
  refine ⟨c - winQ a z s, ?_⟩
  unfold winF
  rw [hc, Int.sub_mul]

/-- the one with number i is at most the time just where i is below how many there are -/
theorem win_upto {a z s : Int} (h : MayW a z s) (i : Nat) : winF a z s + (i : Int) * s ≤ a ↔ i < winK a z s := by
  have hf := win_facts h
  have hk := winK_is h
  obtain ⟨a0, a1, s1, sz, z1, z4⟩ := h
  obtain ⟨m0, m1, m2, -⟩ := win_mod a0 s1
  unfold winF
  constructor
  · intro hi
    by_cases hh : i < winK a z s
    · exact hh
    · exfalso
      have e : ((i : Int) - (winQ a z s + 1)) * s ≥ 0 := Int.mul_nonneg (by omega) (by omega)
      rw [Int.sub_mul, Int.add_mul] at e
      omega
  · intro hi
    have e : ((winQ a z s) - (i : Int)) * s ≥ 0 := Int.mul_nonneg (by omega) (by omega)
    rw [Int.sub_mul] at e
    omega

theorem mul_lt_cases {c d s : Int} (hs : 1 ≤ s) (h : c * s < d * s) : c + 1 ≤ d := by
  have := Int.lt_of_mul_lt_mul_right h (by omega)
  omega

/-- going over all numbers: the multiples are just those -/
theorem win_hit {a z s t : Int} (h : MayW a z s) (j : Nat) (hj : j ≤ winK a z s) (t0 : a - z + 1 ≤ t) (t1 : t ≤ a) (lo : ∀ i : Nat, i < j → winF a z s + (i : Int) * s < t) (hi : j < winK a z s → t ≤ winF a z s + (j : Int) * s) (hm : t.tmod s = 0) : j < winK a z s ∧ t = winF a z s + (j : Int) * s := by
  have hf := win_facts h
  have hk := winK_is h
  have hu := fun i => win_upto h i
  obtain ⟨c, hc⟩ := winF_mul h
  obtain ⟨a0, a1, s1, sz, z1, z4⟩ := h
  obtain ⟨m0, m1, m2, -⟩ := win_mod a0 s1
  have ht : t = t.tdiv s * s := by
    have := Int.mul_tdiv_add_tmod t s
    rw [Int.mul_comm] at this
    omega
  generalize t.tdiv s = d at ht
  have hlow : c + j ≤ d := by
    have : (c + j - 1) * s < d * s := by
      rw [← ht, Int.sub_mul, Int.add_mul, ← hc]
      by_cases h0 : j = 0
      · subst h0
        unfold winF
        simp
        omega
      · have := lo (j - 1) (by omega)
        have e : ((j - 1 : Nat) : Int) = (j : Int) - 1 := by omega
        rw [e, Int.sub_mul] at this
        omega
    have := mul_lt_cases s1 this
    omega
  have hjk : j < winK a z s := by
    rw [← hu j, hc]
    have : 0 ≤ (d - (c + j)) * s := Int.mul_nonneg (by omega) (by omega)
    rw [Int.sub_mul, Int.add_mul] at this
    omega
  refine ⟨hjk, ?_⟩
  have h2 := hi hjk
  have : 0 ≤ (d - (c + j)) * s := Int.mul_nonneg (by omega) (by omega)
  rw [Int.sub_mul, Int.add_mul, ← hc] at this
  omega

/-- a slide later they are a slide later -/
theorem win_later {a z s : Int} (h : MayW a z s) (h2 : MayW (a + s) z s) : winK (a + s) z s = winK a z s ∧ winF (a + s) z s = winF a z s + s := by
  have e : (a + s).tmod s = a.tmod s := by
    obtain ⟨a0, -, s1, -⟩ := h
    rw [Int.tmod_eq_emod_of_nonneg a0, Int.tmod_eq_emod_of_nonneg (by omega : 0 ≤ a + s)]
    exact Int.add_emod_right a s
  unfold winK winF winQ
  rw [e]
  refine ⟨rfl, by omega⟩

theorem win_rest {a z s : Int} (h : MayW a z s) (i : Nat) (hi : i < winK a z s) : a < winF a z s + (i : Int) * s + z ∧ (winF a z s + (i : Int) * s).tmod s = 0 := by
  have hf := win_facts h
  obtain ⟨c, hc⟩ := winF_mul h
  obtain ⟨a0, a1, s1, sz, z1, z4⟩ := h
  obtain ⟨m0, m1, m2, -⟩ := win_mod a0 s1
  have h1 : 0 ≤ (i : Int) * s := Int.mul_nonneg (by omega) (by omega)
  refine ⟨?_, ?_⟩
  · unfold winF
    omega
  · rw [hc, ← Int.add_mul]
    exact Int.mul_tmod_left _ _
end Go.Proofs.Ytchddjlbjldnpab

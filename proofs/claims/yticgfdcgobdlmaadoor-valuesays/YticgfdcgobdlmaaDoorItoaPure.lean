/- A number's decimal text is read as it: plain Lean on the library's own functions for strconv.Itoa and strconv.Atoi. Conditions: the number is below 10^18. -/
import Derived.Lib.ItoaNum
import Derived.Lib.AtoiAll
namespace Go.Proofs.YticgfdcgobdlmaaDoor
open Go.Lib

theorem parse_snoc : ∀ (l : List UInt8) (acc a : Nat) (c : UInt8), parseUint10 acc l = .ok a → 48 ≤ c.toNat → c.toNat ≤ 57 → a < 1844674407370955161 → parseUint10 acc (l ++ [c]) = .ok (a * 10 + (c.toNat - 48))
  | [], acc, a, c, h, h1, h2, h3 => by
    simp only [parseUint10] at h
    injection h with h
    subst h
    simp only [List.nil_append, parseUint10]
    rw [if_pos ⟨h1, h2⟩, if_neg (by omega), if_neg (by omega)]
  | x :: l, acc, a, c, h, h1, h2, h3 => by
    simp only [parseUint10] at h
    simp only [List.cons_append, parseUint10]
    by_cases g1 : 48 ≤ x.toNat ∧ x.toNat ≤ 57
    · rw [if_pos g1] at h ⊢
      by_cases g2 : 1844674407370955162 ≤ acc
      · rw [if_pos g2] at h; cases h
      · rw [if_neg g2] at h ⊢
        by_cases g3 : 18446744073709551616 ≤ acc * 10 + (x.toNat - 48)
        · rw [if_pos g3] at h; cases h
        · rw [if_neg g3] at h ⊢
          exact parse_snoc l _ a c h h1 h2 h3
    · rw [if_neg g1] at h; cases h

theorem dig_val (d : Nat) (h : d < 10) : (UInt8.ofNat (48 + d)).toNat = 48 + d := by
  have : d = 0 ∨ d = 1 ∨ d = 2 ∨ d = 3 ∨ d = 4 ∨ d = 5 ∨ d = 6 ∨ d = 7 ∨ d = 8 ∨ d = 9 := by omega
  rcases this with rfl | rfl | rfl | rfl | rfl | rfl | rfl | rfl | rfl | rfl <;> rfl

theorem parse_digits (u : Nat) (hu : u < 1000000000000000000) : parseUint10 0 (decDigits u) = .ok u ∧ decDigits u ≠ [] ∧ ∀ c ∈ decDigits u, 48 ≤ c.toNat ∧ c.toNat ≤ 57 := by
  induction u using Nat.strongRecOn with
  | ind u ih =>
    by_cases h : u < 10
    · rw [decDigits, dif_pos h]
      have hv := dig_val u h
      refine ⟨?_, by simp, ?_⟩
      · simp only [parseUint10]
        rw [if_pos (by omega), if_neg (by omega), if_neg (by omega), hv]
        simp
      · intro c hc
        rw [List.mem_singleton] at hc
        subst hc
        omega
    · rw [decDigits, dif_neg h]
      obtain ⟨h1, h2, h3⟩ := ih (u / 10) (by omega) (by omega)
      have hv := dig_val (u % 10) (by omega)
      refine ⟨?_, by simp, ?_⟩
      · rw [parse_snoc _ 0 (u / 10) _ h1 (by omega) (by omega) (by omega), hv]
        congr 1
        omega
      · intro c hc
        rcases List.mem_append.1 hc with hc | hc
        · exact h3 c hc
        · rw [List.mem_singleton] at hc
          subst hc
          omega

theorem atoi_itoa (n : Int) (h1 : -1000000000000000000 < n) (h2 : n < 1000000000000000000) : atoiAll (itoa n) = .ok n := by
  unfold itoa
  by_cases hn : n < 0
  · rw [if_pos hn]
    obtain ⟨p1, p2, p3⟩ := parse_digits n.natAbs (by omega)
    unfold atoiAll
    have hm : parseMag (decDigits n.natAbs) = .ok n.natAbs := by unfold parseMag; rw [if_neg p2]; exact p1
    have e : (if (45 : UInt8).toNat = 43 ∨ (45 : UInt8).toNat = 45 then decDigits n.natAbs else (45 : UInt8) :: decDigits n.natAbs) = decDigits n.natAbs := if_pos (.inr rfl)
    simp only [e, hm]
    rw [if_neg (by simp), if_neg (by omega), if_pos (show (45 : UInt8).toNat = 45 from rfl)]
    congr 1
    omega
  · rw [if_neg hn]
    obtain ⟨p1, p2, p3⟩ := parse_digits n.toNat (by omega)
    have hm : parseMag (decDigits n.toNat) = .ok n.toNat := by unfold parseMag; rw [if_neg p2]; exact p1
    generalize decDigits n.toNat = l at *
    match l with
    | [] => exact absurd rfl p2
    | c :: r =>
      have hc := p3 c (List.mem_cons_self ..)
      unfold atoiAll
      have e : (if c.toNat = 43 ∨ c.toNat = 45 then r else c :: r) = c :: r := if_neg (by omega)
      simp only [e, hm]
      rw [if_neg (by omega), if_neg (by omega), if_neg (by omega)]
      congr 1
      omega

theorem itoa_head (n : Int) (h1 : -1000000000000000000 < n) (h2 : n < 1000000000000000000) : ∃ c r, itoa n = c :: r ∧ (c.toNat = 45 ∨ 48 ≤ c.toNat ∧ c.toNat ≤ 57) := by
  unfold itoa
  by_cases hn : n < 0
  · rw [if_pos hn]; exact ⟨45, _, rfl, .inl rfl⟩
  · rw [if_neg hn]
    obtain ⟨p1, p2, p3⟩ := parse_digits n.toNat (by omega)
    match h : decDigits n.toNat with
    | [] => exact absurd h p2
    | c :: r => exact ⟨c, r, rfl, .inr (p3 c (by rw [h]; exact List.mem_cons_self ..))⟩
end Go.Proofs.YticgfdcgobdlmaaDoor

/- What a plain numeral is, without worlds: the reference's reading of digits, and that it reads just the digits that a number is written with. Conditions: none. -/
import Derived.Test.YticgfdcgobdlmaaDoorItoaPure
import Derived.Test.YticgfdcgobdlmaaDoorLexPure
namespace Go.Proofs.YticgfdcgobdlmaaDoor
open Go.Lib
set_option linter.unusedVariables false

/-- digits read behind a number; none: what is no digit, or too great -/
def natL (acc : Nat) : List UInt8 → Option Nat
  | [] => some acc
  | c :: r => if c.toNat < 48 ∨ 57 < c.toNat then none else if 1000000000 < 10 * acc + (c.toNat - 48) then none else natL (10 * acc + (c.toNat - 48)) r

/-- a plain numeral: its number; else -1 -/
def natR (l : List UInt8) : Int :=
  if l.length < 1 ∨ (l.getD 0 0).toNat = 48 ∧ 1 < l.length then -1 else match natL 0 l with | some n => (n : Int) | none => -1

theorem natL_snoc (l : List UInt8) (c : UInt8) : ∀ acc, natL acc (l ++ [c]) = (natL acc l).bind fun n => if c.toNat < 48 ∨ 57 < c.toNat then none else if 1000000000 < 10 * n + (c.toNat - 48) then none else some (10 * n + (c.toNat - 48)) := by
  induction l with
  | nil => intro acc; simp [natL]
  | cons d r ih =>
    intro acc
    simp only [List.cons_append, natL]
    split
    · rfl
    · split
      · rfl
      · exact ih _

theorem decDigits_small (n : Nat) (h : n < 10) : decDigits n = [UInt8.ofNat (48 + n)] := by
  rw [decDigits, dif_pos h]

theorem decDigits_big (n : Nat) (h : 10 ≤ n) : decDigits n = decDigits (n / 10) ++ [UInt8.ofNat (48 + n % 10)] := by
  rw [decDigits, dif_neg (by omega)]

/-- the digits of a number are read as it -/
theorem natL_digits (n : Nat) : n ≤ 1000000000 → natL 0 (decDigits n) = some n := by
  induction n using Nat.strongRecOn with
  | _ n ih =>
    intro h
    by_cases hs : n < 10
    · rw [decDigits_small n hs]
      simp only [natL]
      rw [dig_val n hs]
      rw [if_neg (by omega), if_neg (by omega)]
      simp
    · rw [decDigits_big n (by omega), natL_snoc, ih (n / 10) (by omega) (by omega)]
      simp only [Option.bind_some]
      rw [dig_val (n % 10) (by omega), if_neg (by omega), if_neg (by omega)]
      congr 1
      omega

/-- the first digit is no nought, where there are several -/
theorem digits_head (n : Nat) : 10 ≤ n → ((decDigits n).getD 0 0).toNat ≠ 48 := by
  induction n using Nat.strongRecOn with
  | _ n ih =>
    intro h
    rw [decDigits_big n h]
    by_cases hs : n / 10 < 10
    · rw [decDigits_small _ hs]
      simp
      omega
    · have := ih (n / 10) (by omega) (by omega)
      have hne : decDigits (n / 10) ≠ [] := by rw [decDigits_big _ (by omega)]; simp
      cases hq : decDigits (n / 10) with
      | nil => exact absurd hq hne
      | cons a r => rw [hq] at this; simpa using this

theorem natR_digits (n : Nat) (h : n ≤ 1000000000) : natR (decDigits n) = (n : Int) := by
  have hne : decDigits n ≠ [] := by
    by_cases hs : n < 10
    · rw [decDigits_small n hs]; simp
    · rw [decDigits_big n (by omega)]; simp
  have hl : 0 < (decDigits n).length := List.length_pos_iff.2 hne
  unfold natR
  rw [if_neg, natL_digits n h]
  rintro (h1 | ⟨h1, h2⟩)
  · omega
  · by_cases hs : n < 10
    · rw [decDigits_small n hs] at h2; simp at h2
    · exact digits_head n (by omega) h1

/-- what is read as a number is its digits -/
theorem digits_natL' (k : Nat) : ∀ l : List UInt8, l.length = k → ∀ n, natL 0 l = some n → l ≠ [] → ((l.getD 0 0).toNat = 48 → l.length ≤ 1) → l = decDigits n ∧ n ≤ 1000000000 := by
  induction k with
  | zero => intro l hl n _ h; exact absurd (List.length_eq_zero_iff.1 hl) h
  | succ k ih0 =>
    intro l hl n hn hne h0
    obtain ⟨r, c, rfl⟩ : ∃ r c, l = r ++ [c] := ⟨l.dropLast, l.getLast hne, (List.dropLast_concat_getLast hne).symm⟩
    have ih := ih0 r (by simpa using hl)
    rw [natL_snoc] at hn
    cases hr : natL 0 r with
    | none => rw [hr] at hn; simp at hn
    | some m =>
      rw [hr] at hn
      simp only [Option.bind_some] at hn
      by_cases h1 : c.toNat < 48 ∨ 57 < c.toNat
      · rw [if_pos h1] at hn; cases hn
      · rw [if_neg h1] at hn
        by_cases h2 : 1000000000 < 10 * m + (c.toNat - 48)
        · rw [if_pos h2] at hn; cases hn
        · rw [if_neg h2] at hn
          obtain rfl := Option.some.inj hn
          refine ⟨?_, by omega⟩
          have hc : UInt8.ofNat (48 + (c.toNat - 48)) = c := by
            have : 48 + (c.toNat - 48) = c.toNat := by omega
            rw [this]
            exact UInt8.ofNat_toNat
          by_cases hrn : r = []
          · subst hrn
            simp only [natL] at hr
            obtain rfl := Option.some.inj hr
            rw [decDigits_small _ (by omega)]
            simp only [Nat.mul_zero, Nat.zero_add, List.nil_append]
            rw [hc]
          · have hgd : (r ++ [c]).getD 0 0 = r.getD 0 0 := by
              cases r with
              | nil => exact absurd rfl hrn
              | cons a r => rfl
            have hlen : 0 < r.length := List.length_pos_iff.2 hrn
            have hz : (r.getD 0 0).toNat ≠ 48 := by
              intro hz
              have := h0 (by rw [hgd]; exact hz)
              rw [List.length_append, List.length_singleton] at this
              omega
            obtain ⟨hd, hm⟩ := ih m hr hrn (fun h => absurd h hz)
            have hmp : m ≠ 0 := by
              rintro rfl
              rw [decDigits_small 0 (by omega)] at hd
              apply hz
              rw [hd]
              rfl
            rw [decDigits_big _ (by omega)]
            have e1 : (10 * m + (c.toNat - 48)) / 10 = m := by omega
            have e2 : (10 * m + (c.toNat - 48)) % 10 = c.toNat - 48 := by omega
            rw [e1, e2, hc, ← hd]

theorem digits_natL (l : List UInt8) (n : Nat) (hn : natL 0 l = some n) (hl : l ≠ []) (h : (l.getD 0 0).toNat = 48 → l.length ≤ 1) : l = decDigits n ∧ n ≤ 1000000000 := digits_natL' l.length l rfl n hn hl h

theorem natR_some (l : List UInt8) (h : 0 ≤ natR l) : l = decDigits (natR l).toNat ∧ natR l ≤ 1000000000 := by
  unfold natR at h ⊢
  by_cases h1 : l.length < 1 ∨ (l.getD 0 0).toNat = 48 ∧ 1 < l.length
  · rw [if_pos h1] at h; omega
  · rw [if_neg h1] at h ⊢
    cases hn : natL 0 l with
    | none => rw [hn] at h; simp at h
    | some n =>
      obtain ⟨a, b⟩ := digits_natL l n hn (by rintro rfl; exact h1 (Or.inl (by simp))) (fun h0 => by
        rcases Nat.lt_or_ge 1 l.length with h2 | h2
        · exact absurd (Or.inr ⟨h0, h2⟩) h1
        · exact h2)
      exact ⟨by simpa using a, by simp; omega⟩

/-- how the reference reads a value's number: its number, or none -/
def refV (l : List UInt8) : Option Int :=
  let t := if 1 < l.length ∧ (l.getD 0 0).toNat = 45 then l.drop 1 else l
  if natR t < 0 ∨ t.length < l.length ∧ natR t = 0 then none else if t.length < l.length then some (-natR t) else some (natR t)

theorem refV_itoa (v : Int) (h0 : -1000000000 ≤ v) (h1 : v ≤ 1000000000) : refV (itoa v) = some v := by
  unfold itoa
  by_cases hn : v < 0
  · rw [if_pos hn]
    have hp := natR_digits v.natAbs (by omega)
    have hne : decDigits v.natAbs ≠ [] := (parse_digits v.natAbs (by omega)).2.1
    have hl : 0 < (decDigits v.natAbs).length := List.length_pos_iff.2 hne
    unfold refV
    have e1 : ((if 1 < ((45 : UInt8) :: decDigits v.natAbs).length ∧ ((((45 : UInt8) :: decDigits v.natAbs)).getD 0 0).toNat = 45 then ((45 : UInt8) :: decDigits v.natAbs).drop 1 else (45 : UInt8) :: decDigits v.natAbs)) = decDigits v.natAbs := by
      rw [if_pos ⟨by simp; omega, by rfl⟩]; rfl
    simp only [e1, hp]
    rw [if_neg (by simp only [List.length_cons]; omega), if_pos (by simp)]
    congr 1
    omega
  · rw [if_neg hn]
    have hp := natR_digits v.toNat (by omega)
    have hd := (parse_digits v.toNat (by omega)).2.2
    unfold refV
    have e1 : (if 1 < (decDigits v.toNat).length ∧ ((decDigits v.toNat).getD 0 0).toNat = 45 then (decDigits v.toNat).drop 1 else decDigits v.toNat) = decDigits v.toNat := by
      rw [if_neg]
      rintro ⟨h2, h3⟩
      cases hq : decDigits v.toNat with
      | nil => rw [hq] at h2; simp at h2
      | cons a r =>
        rw [hq] at h3 hd
        have := hd a (by simp)
        simp at h3
        omega
    simp only [e1, hp]
    rw [if_neg (by omega), if_neg (by omega)]
    congr 1
    omega

theorem itoa_refV (l : List UInt8) (v : Int) (h : refV l = some v) : l = itoa v ∧ -1000000000 ≤ v ∧ v ≤ 1000000000 := by
  unfold refV at h
  by_cases hm : 1 < l.length ∧ (l.getD 0 0).toNat = 45
  · simp only [if_pos hm] at h
    by_cases h1 : natR (l.drop 1) < 0 ∨ (l.drop 1).length < l.length ∧ natR (l.drop 1) = 0
    · rw [if_pos h1] at h; cases h
    · rw [if_neg h1, if_pos (by simp; omega)] at h
      obtain rfl := Option.some.inj h
      have hl : (l.drop 1).length < l.length := by simp; omega
      have hp : 0 < natR (l.drop 1) := by omega
      obtain ⟨hd, hb⟩ := natR_some (l.drop 1) (by omega)
      refine ⟨?_, by omega, by omega⟩
      unfold itoa
      rw [if_pos (by omega)]
      have e : (-natR (l.drop 1)).natAbs = (natR (l.drop 1)).toNat := by omega
      rw [e, ← hd]
      cases l with
      | nil => simp at hm
      | cons a r =>
        have ha : a = 45 := by
          have := hm.2
          simp at this
          exact UInt8.toNat_inj.1 this
        rw [ha]
        rfl
  · simp only [if_neg hm] at h
    by_cases h1 : natR l < 0 ∨ l.length < l.length ∧ natR l = 0
    · rw [if_pos h1] at h; cases h
    · rw [if_neg h1, if_neg (by omega)] at h
      obtain rfl := Option.some.inj h
      obtain ⟨hd, hb⟩ := natR_some l (by omega)
      refine ⟨?_, by omega, by omega⟩
      unfold itoa
      rw [if_neg (by omega)]
      exact hd
end Go.Proofs.YticgfdcgobdlmaaDoor

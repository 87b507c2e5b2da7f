/- Contracts of lexer.signLength and lexer.wordLength, over this seat's translation. Conditions: the text is not empty. -/
import Derived.Test.YticgfdcgobdlmaaLex1
namespace Go.Proofs.Yticgfdcgobdlmaa
open Go.RowKit
set_option linter.unusedVariables false
set_option linter.unusedSimpArgs false

/-- the length of the sign at the beginning -/
def sgl (s : ByteArray) : Nat := if 1 < s.size ∧ isTwo (bt s 0) (bt s 1) = true then 2 else if isSgn (bt s 0) then 1 else 0

theorem hid2 {p : Prop} (h : p) : Hid p := h

theorem bt_bd (s : ByteArray) (k : Nat) : 0 ≤ bt s k ∧ bt s k ≤ 255 := by
  unfold bt
  have := (s.data.toList.getD k 0).toNat_lt
  omega

theorem idx_yes (c : Int) (w : World) (h0 : 0 ≤ c) (h1 : c ≤ 255) (h : isSgn c = true) : Calls Try.prog 68 #[.string ⟨#[40, 41, 44, 42, 43, 45, 60, 62, 61]⟩, .int .u8 c] w fun e w' => (∃ q, e = .returned (.int .i64 q) ∧ 0 ≤ q) ∧ w' = w :=
  (idx_any c w h0 h1).mono fun e w' ⟨he, hw⟩ => ⟨⟨_, he, of_decide_eq_true ((sgn_idx c h0 h1).trans h)⟩, hw⟩
theorem idx_no (c : Int) (w : World) (h0 : 0 ≤ c) (h1 : c ≤ 255) (h : isSgn c = false) : Calls Try.prog 68 #[.string ⟨#[40, 41, 44, 42, 43, 45, 60, 62, 61]⟩, .int .u8 c] w fun e w' => (∃ q, e = .returned (.int .i64 q) ∧ q < 0) ∧ w' = w :=
  (idx_any c w h0 h1).mono fun e w' ⟨he, hw⟩ => ⟨⟨_, he, by have := of_decide_eq_false ((sgn_idx c h0 h1).trans h); omega⟩, hw⟩

theorem signs_one (s : ByteArray) (w : World) (h0 : 0 < s.size) (h2 : ¬ (1 < s.size ∧ isTwo (bt s 0) (bt s 1) = true)) :
    Calls Try.prog 61 #[.string s] w fun e w' => e = .returned (.int .i64 (sgl s)) ∧ w' = w := by
  have hb := bt_bd s 0
  have HC0 : Hid (0 ≤ (s[0].toNat : Int)) := by show 0 ≤ _; omega
  have HC1 : Hid ((s[0].toNat : Int) ≤ 255) := by show _ ≤ _; rw [bt_get s 0 h0]; exact hb.2
  clear hb
  have hq : sgl s = if isSgn (bt s 0) then 1 else 0 := by
    unfold sgl
    rw [if_neg h2]
  rw [← bt_get s 0 h0] at hq
  rw [hq]
  clear hq
  by_cases hs : 2 ≤ s.size
  · have hn : isTwo (bt s 0) (bt s 1) = false := by
      cases h : isTwo (bt s 0) (bt s 1)
      · rfl
      · exact absurd ⟨by omega, h⟩ h2
    unfold isTwo at hn
    simp only [Bool.or_eq_false_iff] at hn
    have t1 : ((s.extract 0 2).toList == [60, 61]) = false := (two_eq s 60 61 hs).trans hn.1.1
    have t2 : ((s.extract 0 2).toList == [62, 61]) = false := (two_eq s 62 61 hs).trans hn.1.2
    have t3 : ((s.extract 0 2).toList == [60, 62]) = false := (two_eq s 60 62 hs).trans hn.2
    clear hn h2
    have hs2 : (2 : Int) ≤ (s.size : Int) := by omega
    cases hg : isSgn (s[0].toNat : Int)
    · have hg := hid2 hg
      go_enter Try.func61, Try.ntmps61
      go_wp2_with (go_at_call 68; refine (idx_no _ _ HC0.out HC1.out hg.out).mono ?_; rintro e w' ⟨⟨q, rfl, hq0⟩, rfl⟩)
      go_ret
      exact ⟨rfl, rfl⟩
    · have hg := hid2 hg
      go_enter Try.func61, Try.ntmps61
      go_wp2_with (go_at_call 68; refine (idx_yes _ _ HC0.out HC1.out hg.out).mono ?_; rintro e w' ⟨⟨q, rfl, hq0⟩, rfl⟩)
      go_ret
      exact ⟨rfl, rfl⟩
  · have hs2 : (s.size : Int) < 2 := by omega
    clear h2
    cases hg : isSgn (s[0].toNat : Int)
    · have hg := hid2 hg
      go_enter Try.func61, Try.ntmps61
      go_wp2_with (go_at_call 68; refine (idx_no _ _ HC0.out HC1.out hg.out).mono ?_; rintro e w' ⟨⟨q, rfl, hq0⟩, rfl⟩)
      go_ret
      exact ⟨rfl, rfl⟩
    · have hg := hid2 hg
      go_enter Try.func61, Try.ntmps61
      go_wp2_with (go_at_call 68; refine (idx_yes _ _ HC0.out HC1.out hg.out).mono ?_; rintro e w' ⟨⟨q, rfl, hq0⟩, rfl⟩)
      go_ret
      exact ⟨rfl, rfl⟩

theorem signs_two (s : ByteArray) (w : World) (h1 : 1 < s.size) (h2 : isTwo (bt s 0) (bt s 1) = true) :
    Calls Try.prog 61 #[.string s] w fun e w' => e = .returned (.int .i64 2) ∧ w' = w := by
  have hs2 : (2 : Int) ≤ (s.size : Int) := by omega
  unfold isTwo at h2
  cases q1 : (bt s 0 == 60 && bt s 1 == 61)
  · have t1 : ((s.extract 0 2).toList == [60, 61]) = false := (two_eq s 60 61 h1).trans q1
    cases q2 : (bt s 0 == 62 && bt s 1 == 61)
    · have t2 : ((s.extract 0 2).toList == [62, 61]) = false := (two_eq s 62 61 h1).trans q2
      have q3 : (bt s 0 == 60 && bt s 1 == 62) = true := by rw [q1, q2] at h2; simpa using h2
      have t3 : ((s.extract 0 2).toList == [60, 62]) = true := (two_eq s 60 62 h1).trans q3
      clear q1 q2 q3 h2
      go_enter Try.func61, Try.ntmps61
      go_wp2_with fail
      go_ret
      exact ⟨rfl, rfl⟩
    · have t2 : ((s.extract 0 2).toList == [62, 61]) = true := (two_eq s 62 61 h1).trans q2
      clear q1 q2 h2
      go_enter Try.func61, Try.ntmps61
      go_wp2_with fail
      go_ret
      exact ⟨rfl, rfl⟩
  · have t1 : ((s.extract 0 2).toList == [60, 61]) = true := (two_eq s 60 61 h1).trans q1
    clear q1 h2
    go_enter Try.func61, Try.ntmps61
    go_wp2_with fail
    go_ret
    exact ⟨rfl, rfl⟩

theorem signs (s : ByteArray) (w : World) (h0 : 0 < s.size) :
    Calls Try.prog 61 #[.string s] w fun e w' => e = .returned (.int .i64 (sgl s)) ∧ w' = w := by
  by_cases h : 1 < s.size ∧ isTwo (bt s 0) (bt s 1) = true
  · have e : sgl s = 2 := by unfold sgl; rw [if_pos h]
    rw [e]
    exact signs_two s w h.1 h.2
  · exact signs_one s w h0 h

theorem wordLen (s : ByteArray) (w : World) (h0 : 0 < s.size) (hs : s.size ≤ maxLen) : Calls Try.prog 41 #[.string s] w fun e w' => e = .returned (.int .i64 (wl s 0)) ∧ w' = w := by
  have eq : wl s 0 = if isLet (bt s 0) then run isLet s 0 else if isDig (bt s 0) then run isDig s 0 else sgl s := by
    unfold wl sgl; simp only [Nat.zero_add]
  have hbt := bt_get s 0 h0
  rw [eq]
  rw [← hbt]
  clear eq hbt
  have HS : Hid (s.size ≤ maxLen) := hs
  clear hs
  cases h1 : isLet (s[0].toNat : Int)
  · cases h2 : isDig (s[0].toNat : Int)
    · go_enter Try.func41, Try.ntmps41
      go_wp2_with (first | (go_at_call 58; refine (letter_any _ _).mono ?_; rintro e w' ⟨rfl, rfl⟩) | (go_at_call 60; refine (digit_any _ _).mono ?_; rintro e w' ⟨rfl, rfl⟩) | (go_at_call 61; refine (signs _ _ h0).mono ?_; rintro e w' ⟨rfl, rfl⟩))
      go_ret
      exact ⟨rfl, rfl⟩
    · go_enter Try.func41, Try.ntmps41
      go_wp2_with (first | (go_at_call 58; refine (letter_any _ _).mono ?_; rintro e w' ⟨rfl, rfl⟩) | (go_at_call 60; refine (digit_any _ _).mono ?_; rintro e w' ⟨rfl, rfl⟩) | (go_at_call 59; refine (runDig _ _ HS.out).mono ?_; rintro e w' ⟨rfl, rfl⟩))
      go_ret
      exact ⟨rfl, rfl⟩
  · go_enter Try.func41, Try.ntmps41
    go_wp2_with (first | (go_at_call 58; refine (letter_any _ _).mono ?_; rintro e w' ⟨rfl, rfl⟩) | (go_at_call 59; refine (runLet _ _ HS.out).mono ?_; rintro e w' ⟨rfl, rfl⟩))
    go_ret
    exact ⟨rfl, rfl⟩
end Go.Proofs.Yticgfdcgobdlmaa

/- Contracts of the small functions of package lexer, over this seat's translation. Conditions: none. -/
import Derived.Test.YticgfdcgobdlmaaRows
import Derived.Test.YticgfdcgobdlmaaKin
import Derived.Test.YticgfdcgobdlmaaLexPure
import Derived.ProofKit
import Derived.OwnWalk
import Derived.Outline
import Derived.WalkSpells
import Derived.Lib.Bytealg
namespace Go.Proofs.Yticgfdcgobdlmaa
open Go.RowKit
set_option linter.unusedVariables false
set_option linter.unusedSimpArgs false

theorem ret_i {k : IntKind} {a b : Int} (h : a = b) : Ending.returned (.int k a) = .returned (.int k b) := by rw [h]

theorem letter_any (c : Int) (w : World) : Calls Try.prog 58 #[.int .u8 c] w fun e w' => e = .returned (.bool (isLet c)) ∧ w' = w := by
  by_cases h1 : 97 ≤ c
  · by_cases h2 : c ≤ 122
    · have e : isLet c = true := decide_eq_true ⟨h1, h2⟩
      rw [e]; clear e
      go_enter Try.func58, Try.ntmps58
      go_wp2
      go_ret
      exact ⟨rfl, rfl⟩
    · have e : isLet c = false := decide_eq_false (by omega)
      have hd : decide (c ≤ 122) = false := decide_eq_false h2
      rw [e]; clear e
      go_enter Try.func58, Try.ntmps58
      go_wp2
      go_ret
      exact ⟨rfl, rfl⟩
  · have e : isLet c = false := decide_eq_false (by omega)
    have hd : decide (97 ≤ c) = false := decide_eq_false h1
    rw [e]; clear e
    go_enter Try.func58, Try.ntmps58
    go_wp2
    go_ret
    exact ⟨rfl, rfl⟩

theorem digit_any (c : Int) (w : World) : Calls Try.prog 60 #[.int .u8 c] w fun e w' => e = .returned (.bool (isDig c)) ∧ w' = w := by
  by_cases h1 : 48 ≤ c
  · by_cases h2 : c ≤ 57
    · have e : isDig c = true := decide_eq_true ⟨h1, h2⟩
      rw [e]; clear e
      go_enter Try.func60, Try.ntmps60
      go_wp2
      go_ret
      exact ⟨rfl, rfl⟩
    · have e : isDig c = false := decide_eq_false (by omega)
      have hd : decide (c ≤ 57) = false := decide_eq_false h2
      rw [e]; clear e
      go_enter Try.func60, Try.ntmps60
      go_wp2
      go_ret
      exact ⟨rfl, rfl⟩
  · have e : isDig c = false := decide_eq_false (by omega)
    have hd : decide (48 ≤ c) = false := decide_eq_false h1
    rw [e]; clear e
    go_enter Try.func60, Try.ntmps60
    go_wp2
    go_ret
    exact ⟨rfl, rfl⟩

theorem bt_get (s : ByteArray) (k : Nat) (h : k < s.size) : (s[k].toNat : Int) = bt s k := by
  unfold bt
  have h2 : k < s.data.toList.length := by simpa using h
  simp only [List.getD, List.getElem?_eq_getElem h2, Option.getD_some]
  rfl

theorem runLet (s : ByteArray) (w : World) (hs : s.size ≤ maxLen) :
    Calls Try.prog 59 #[.string s, .func (Fn.func 58) #[] #[]] w fun e w' => e = .returned (.int .i64 (run isLet s 0)) ∧ w' = w := by
  unfold maxLen at hs
  generalize hr : ((run isLet s 0 : Nat) : Int) = r
  have HR : Hid (((run isLet s 0 : Nat) : Int) = r) := hr
  clear hr
  go_enter Try.func59, Try.ntmps59
  go_wp2_with fail
  go_loop [5] (fun i => ∃ k : Nat, k ≤ s.size ∧ i = .int .i64 k ∧ Hid (∀ j, j < k → isLet (bt s j) = true)) (fun i => s.size - (intOf i).toNat)
  case atStart => exact ⟨0, Nat.zero_le _, rfl, fun j hj => absurd hj (by omega)⟩
  case round =>
    obtain ⟨k, hk, rfl, HA⟩ := hrel
    by_cases hlt : k < s.size
    · go_wp2_with (go_at_call 58; refine (letter_any _ _).mono ?_; rintro e w' ⟨rfl, rfl⟩)
      · have q : isLet (s[k].toNat : Int) = true := by assumption
        rw [bt_get s k hlt] at q
        go_round
        case rel => exact ⟨k + 1, by omega, by go_num, fun j hj => by
          by_cases hjk : j = k
          · subst hjk; exact q
          · exact HA.out j (by omega)⟩
        case measure => simp [intOf]; omega
      · have q : isLet (s[k].toNat : Int) = false := by assumption
        rw [bt_get s k hlt] at q
        have e : run isLet s 0 = k := by rw [run_of isLet s 0 k (by omega) (by omega) (fun j _ hj => HA.out j hj) (.inr q)]; omega
        go_ret
        exact ⟨ret_i (by rw [← HR.out, e]), rfl⟩
    · have e : run isLet s 0 = k := by rw [run_of isLet s 0 k (by omega) (by omega) (fun j _ hj => HA.out j hj) (.inl (by omega))]; omega
      have E : Hid (run isLet s 0 = k) := e
      clear e
      go_wp2_with fail
      go_ret
      exact ⟨ret_i (by rw [← HR.out, E.out]), rfl⟩

theorem runDig (s : ByteArray) (w : World) (hs : s.size ≤ maxLen) :
    Calls Try.prog 59 #[.string s, .func (Fn.func 60) #[] #[]] w fun e w' => e = .returned (.int .i64 (run isDig s 0)) ∧ w' = w := by
  unfold maxLen at hs
  generalize hr : ((run isDig s 0 : Nat) : Int) = r
  have HR : Hid (((run isDig s 0 : Nat) : Int) = r) := hr
  clear hr
  go_enter Try.func59, Try.ntmps59
  go_wp2_with fail
  go_loop [5] (fun i => ∃ k : Nat, k ≤ s.size ∧ i = .int .i64 k ∧ Hid (∀ j, j < k → isDig (bt s j) = true)) (fun i => s.size - (intOf i).toNat)
  case atStart => exact ⟨0, Nat.zero_le _, rfl, fun j hj => absurd hj (by omega)⟩
  case round =>
    obtain ⟨k, hk, rfl, HA⟩ := hrel
    by_cases hlt : k < s.size
    · go_wp2_with (go_at_call 60; refine (digit_any _ _).mono ?_; rintro e w' ⟨rfl, rfl⟩)
      · have q : isDig (s[k].toNat : Int) = true := by assumption
        rw [bt_get s k hlt] at q
        go_round
        case rel => exact ⟨k + 1, by omega, by go_num, fun j hj => by
          by_cases hjk : j = k
          · subst hjk; exact q
          · exact HA.out j (by omega)⟩
        case measure => simp [intOf]; omega
      · have q : isDig (s[k].toNat : Int) = false := by assumption
        rw [bt_get s k hlt] at q
        have e : run isDig s 0 = k := by rw [run_of isDig s 0 k (by omega) (by omega) (fun j _ hj => HA.out j hj) (.inr q)]; omega
        go_ret
        exact ⟨ret_i (by rw [← HR.out, e]), rfl⟩
    · have e : run isDig s 0 = k := by rw [run_of isDig s 0 k (by omega) (by omega) (fun j _ hj => HA.out j hj) (.inl (by omega))]; omega
      have E : Hid (run isDig s 0 = k) := e
      clear e
      go_wp2_with fail
      go_ret
      exact ⟨ret_i (by rw [← HR.out, E.out]), rfl⟩

theorem idx_call (s : ByteArray) (c : Int) (w : World) : (callFunc 78 #[.string s, .int .u8 c]).run Try.prog w = .ok (.value (.int .i64 (Lib.indexByte s.data.toList c.toNat.toUInt8))) w := by
  rw [run_callFunc_extern Try.func78 (by kernel_rfl) (by kernel_rfl) (by kernel_rfl) (e := Extern.BytealgIndexByte.indexByte) (by kernel_rfl), Lib.run_indexByteString]
  rfl

theorem sgn_idx (c : Int) (h0 : 0 ≤ c) (h1 : c ≤ 255) : decide (0 ≤ Lib.indexByte [40, 41, 44, 42, 43, 45, 60, 62, 61] c.toNat.toUInt8) = isSgn c := by
  obtain ⟨n, rfl⟩ := Int.eq_ofNat_of_zero_le h0
  have hn : n < 256 := by omega
  clear h0 h1
  revert n
  decide +kernel

theorem idx_any (c : Int) (w : World) (h0 : 0 ≤ c) (h1 : c ≤ 255) : Calls Try.prog 68 #[.string ⟨#[40, 41, 44, 42, 43, 45, 60, 62, 61]⟩, .int .u8 c] w fun e w' => e = .returned (.int .i64 (Lib.indexByte [40, 41, 44, 42, 43, 45, 60, 62, 61] c.toNat.toUInt8)) ∧ w' = w := by
  have hd := idx_call ⟨#[40, 41, 44, 42, 43, 45, 60, 62, 61]⟩ c w
  go_enter Try.func68, Try.ntmps68
  go_wp2
  go_ret
  exact ⟨rfl, rfl⟩

theorem u8_eq (a b : UInt8) : (a == b) = ((a.toNat : Int) == (b.toNat : Int)) := by
  rw [Bool.eq_iff_iff]
  simp only [beq_iff_eq]
  constructor
  · rintro rfl; rfl
  · intro h; exact UInt8.toNat_inj.1 (by omega)

theorem two_eq (s : ByteArray) (a b : UInt8) (h : 2 ≤ s.size) : ((s.extract 0 2).toList == [a, b]) = (bt s 0 == (a.toNat : Int) && bt s 1 == (b.toNat : Int)) := by
  have e : (s.extract 0 2).toList = s.data.toList.take 2 := by
    rw [ByteArray.toList_eq, Lib.extract_data]; simp
  rw [e]
  unfold bt
  have hl : 2 ≤ s.data.toList.length := by simpa using h
  generalize s.data.toList = l at hl
  match l, hl with
  | x :: y :: r, _ => simp [u8_eq]
end Go.Proofs.Yticgfdcgobdlmaa

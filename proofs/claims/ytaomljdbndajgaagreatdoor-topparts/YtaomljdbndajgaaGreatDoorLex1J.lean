/- Several texts in one, each with its own head. What is proved: what the parts say. Conditions: theirs. -/
import Derived.Test.YtaomljdbndajgaaGreatDoorRows
import Derived.Test.YtaomljdbndajgaaGreatDoorKin
import Derived.Test.YtaomljdbndajgaaGreatDoorLexPure
import Derived.ProofKit
import Derived.OwnWalk
import Derived.Outline
import Derived.WalkSpells
import Derived.Lib.Bytealg
import Derived.Test.YtaomljdbndajgaaGreatDoorBaseJ
import Derived.Deep.DeepMust
/- Contracts of the small functions of package lexer, over this seat's translation. Conditions: none. -/
namespace Go.Proofs.YtaomljdbndajgaaGreatDoor
open Go.RowKit
set_option linter.unusedVariables false
set_option linter.unusedSimpArgs false

theorem ret_i {k : IntKind} {a b : Int} (h : a = b) : Ending.returned (.int k a) = .returned (.int k b) := by rw [h]

theorem letter_any (c : Int) (w : World) : Calls Tryz.prog 86 #[.int .u8 c] w fun e w' => e = .returned (.bool (isLet c)) ∧ w' = w := by
  by_cases h1 : 97 ≤ c
  · by_cases h2 : c ≤ 122
    · have e : isLet c = true := decide_eq_true ⟨h1, h2⟩
      rw [e]; clear e
      go_enter Tryz.func86, Tryz.ntmps86
      go_wp2
      go_ret
      exact ⟨rfl, rfl⟩
    · have e : isLet c = false := decide_eq_false (by omega)
      have hd : decide (c ≤ 122) = false := decide_eq_false h2
      rw [e]; clear e
      go_enter Tryz.func86, Tryz.ntmps86
      go_wp2
      go_ret
      exact ⟨rfl, rfl⟩
  · have e : isLet c = false := decide_eq_false (by omega)
    have hd : decide (97 ≤ c) = false := decide_eq_false h1
    rw [e]; clear e
    go_enter Tryz.func86, Tryz.ntmps86
    go_wp2
    go_ret
    exact ⟨rfl, rfl⟩

theorem digit_any (c : Int) (w : World) : Calls Tryz.prog 88 #[.int .u8 c] w fun e w' => e = .returned (.bool (isDig c)) ∧ w' = w := by
  by_cases h1 : 48 ≤ c
  · by_cases h2 : c ≤ 57
    · have e : isDig c = true := decide_eq_true ⟨h1, h2⟩
      rw [e]; clear e
      go_enter Tryz.func88, Tryz.ntmps88
      go_wp2
      go_ret
      exact ⟨rfl, rfl⟩
    · have e : isDig c = false := decide_eq_false (by omega)
      have hd : decide (c ≤ 57) = false := decide_eq_false h2
      rw [e]; clear e
      go_enter Tryz.func88, Tryz.ntmps88
      go_wp2
      go_ret
      exact ⟨rfl, rfl⟩
  · have e : isDig c = false := decide_eq_false (by omega)
    have hd : decide (48 ≤ c) = false := decide_eq_false h1
    rw [e]; clear e
    go_enter Tryz.func88, Tryz.ntmps88
    go_wp2
    go_ret
    exact ⟨rfl, rfl⟩

theorem bt_get (s : ByteArray) (k : Nat) (h : k < s.size) : (s[k].toNat : Int) = bt s k := by
  unfold bt
  have h2 : k < s.data.toList.length := by simpa using h
  simp only [List.getD, List.getElem?_eq_getElem h2, Option.getD_some]
  rfl

theorem runLet (s : ByteArray) (w : World) (hs : s.size ≤ maxLen) :
    Calls Tryz.prog 87 #[.string s, .func (Fn.func 86) #[] #[]] w fun e w' => e = .returned (.int .i64 (run isLet s 0)) ∧ w' = w := by
  unfold maxLen at hs
  generalize hr : ((run isLet s 0 : Nat) : Int) = r
  have HR : Hid (((run isLet s 0 : Nat) : Int) = r) := hr
  clear hr
  go_enter Tryz.func87, Tryz.ntmps87
  go_wp2_with fail
  go_loop [5] (fun i => ∃ k : Nat, k ≤ s.size ∧ i = .int .i64 k ∧ Hid (∀ j, j < k → isLet (bt s j) = true)) (fun i => s.size - (intOf i).toNat)
  case atStart => exact ⟨0, Nat.zero_le _, rfl, fun j hj => absurd hj (by omega)⟩
  case round =>
    obtain ⟨k, hk, rfl, HA⟩ := hrel
    by_cases hlt : k < s.size
    · go_wp2_with (go_at_call 86; refine (letter_any _ _).mono ?_; rintro e w' ⟨rfl, rfl⟩)
      · have q : isLet (s[k].toNat : Int) = true := by assumption
        rw [bt_get s k hlt] at q
        go_round
        case rel => exact ⟨k + 1, by omega, by go_num, fun j hj => by
          by_cases hjk : j = k
          · subst hjk; exact q
          · exact HA.out j (by omega)⟩
        case measure => simp [intOf]; omega
      · have q : isLet (s[k].toNat : Int) = false := by assumption
        rw [bt_get s k hlt] at q
        have e : run isLet s 0 = k := by rw [run_of isLet s 0 k (by omega) (by omega) (fun j _ hj => HA.out j hj) (.inr q)]; omega
        go_ret
        exact ⟨ret_i (by rw [← HR.out, e]), rfl⟩
    · have e : run isLet s 0 = k := by rw [run_of isLet s 0 k (by omega) (by omega) (fun j _ hj => HA.out j hj) (.inl (by omega))]; omega
      have E : Hid (run isLet s 0 = k) := e
      clear e
      go_wp2_with fail
      go_ret
      exact ⟨ret_i (by rw [← HR.out, E.out]), rfl⟩

theorem runDig (s : ByteArray) (w : World) (hs : s.size ≤ maxLen) :
    Calls Tryz.prog 87 #[.string s, .func (Fn.func 88) #[] #[]] w fun e w' => e = .returned (.int .i64 (run isDig s 0)) ∧ w' = w := by
  unfold maxLen at hs
  generalize hr : ((run isDig s 0 : Nat) : Int) = r
  have HR : Hid (((run isDig s 0 : Nat) : Int) = r) := hr
  clear hr
  go_enter Tryz.func87, Tryz.ntmps87
  go_wp2_with fail
  go_loop [5] (fun i => ∃ k : Nat, k ≤ s.size ∧ i = .int .i64 k ∧ Hid (∀ j, j < k → isDig (bt s j) = true)) (fun i => s.size - (intOf i).toNat)
  case atStart => exact ⟨0, Nat.zero_le _, rfl, fun j hj => absurd hj (by omega)⟩
  case round =>
    obtain ⟨k, hk, rfl, HA⟩ := hrel
    by_cases hlt : k < s.size
    · go_wp2_with (go_at_call 88; refine (digit_any _ _).mono ?_; rintro e w' ⟨rfl, rfl⟩)
      · have q : isDig (s[k].toNat : Int) = true := by assumption
        rw [bt_get s k hlt] at q
        go_round
        case rel => exact ⟨k + 1, by omega, by go_num, fun j hj => by
          by_cases hjk : j = k
          · subst hjk; exact q
          · exact HA.out j (by omega)⟩
        case measure => simp [intOf]; omega
      · have q : isDig (s[k].toNat : Int) = false := by assumption
        rw [bt_get s k hlt] at q
        have e : run isDig s 0 = k := by rw [run_of isDig s 0 k (by omega) (by omega) (fun j _ hj => HA.out j hj) (.inr q)]; omega
        go_ret
        exact ⟨ret_i (by rw [← HR.out, e]), rfl⟩
    · have e : run isDig s 0 = k := by rw [run_of isDig s 0 k (by omega) (by omega) (fun j _ hj => HA.out j hj) (.inl (by omega))]; omega
      have E : Hid (run isDig s 0 = k) := e
      clear e
      go_wp2_with fail
      go_ret
      exact ⟨ret_i (by rw [← HR.out, E.out]), rfl⟩

theorem idx_call (s : ByteArray) (c : Int) (w : World) : (callFunc 121 #[.string s, .int .u8 c]).run Tryz.prog w = .ok (.value (.int .i64 (Lib.indexByte s.data.toList c.toNat.toUInt8))) w := by
  rw [run_callFunc_extern Tryz.func121 (by kernel_rfl) (by kernel_rfl) (by kernel_rfl) (e := Extern.BytealgIndexByte.indexByte) (by kernel_rfl), Lib.run_indexByteString]
  rfl

theorem sgn_idx (c : Int) (h0 : 0 ≤ c) (h1 : c ≤ 255) : decide (0 ≤ Lib.indexByte [40, 41, 44, 42, 43, 45, 60, 62, 61] c.toNat.toUInt8) = isSgn c := by
  obtain ⟨n, rfl⟩ := Int.eq_ofNat_of_zero_le h0
  have hn : n < 256 := by omega
  clear h0 h1
  revert n
  decide +kernel

theorem idx_any (c : Int) (w : World) (h0 : 0 ≤ c) (h1 : c ≤ 255) : Calls Tryz.prog 103 #[.string ⟨#[40, 41, 44, 42, 43, 45, 60, 62, 61]⟩, .int .u8 c] w fun e w' => e = .returned (.int .i64 (Lib.indexByte [40, 41, 44, 42, 43, 45, 60, 62, 61] c.toNat.toUInt8)) ∧ w' = w := by
  have hd := idx_call ⟨#[40, 41, 44, 42, 43, 45, 60, 62, 61]⟩ c w
  go_enter Tryz.func103, Tryz.ntmps103
  go_wp2
  go_ret
  exact ⟨rfl, rfl⟩

theorem u8_eq (a b : UInt8) : (a == b) = ((a.toNat : Int) == (b.toNat : Int)) := by
  rw [Bool.eq_iff_iff]
  simp only [beq_iff_eq]
  constructor
  · rintro rfl; rfl
  · intro h; exact UInt8.toNat_inj.1 (by omega)

theorem two_eq (s : ByteArray) (a b : UInt8) (h : 2 ≤ s.size) : ((s.extract 0 2).toList == [a, b]) = (bt s 0 == (a.toNat : Int) && bt s 1 == (b.toNat : Int)) := by
  have e : (s.extract 0 2).toList = s.data.toList.take 2 := by
    rw [ByteArray.toList_eq, Lib.extract_data]; simp
  rw [e]
  unfold bt
  have hl : 2 ≤ s.data.toList.length := by simpa using h
  generalize s.data.toList = l at hl
  match l, hl with
  | x :: y :: r, _ => simp [u8_eq]
end Go.Proofs.YtaomljdbndajgaaGreatDoor
/- Contracts of lexer.signLength and lexer.wordLength, over this seat's translation. Conditions: the text is not empty. -/
namespace Go.Proofs.YtaomljdbndajgaaGreatDoor
open Go.RowKit
set_option linter.unusedVariables false
set_option linter.unusedSimpArgs false

/-- the length of the sign at the beginning -/
def sgl (s : ByteArray) : Nat := if 1 < s.size ∧ isTwo (bt s 0) (bt s 1) = true then 2 else if isSgn (bt s 0) then 1 else 0

theorem hid2 {p : Prop} (h : p) : Hid p := h

theorem bt_bd (s : ByteArray) (k : Nat) : 0 ≤ bt s k ∧ bt s k ≤ 255 := by
  unfold bt
  have := (s.data.toList.getD k 0).toNat_lt
  omega

theorem idx_yes (c : Int) (w : World) (h0 : 0 ≤ c) (h1 : c ≤ 255) (h : isSgn c = true) : Calls Tryz.prog 103 #[.string ⟨#[40, 41, 44, 42, 43, 45, 60, 62, 61]⟩, .int .u8 c] w fun e w' => (∃ q, e = .returned (.int .i64 q) ∧ 0 ≤ q) ∧ w' = w :=
  (idx_any c w h0 h1).mono fun e w' ⟨he, hw⟩ => ⟨⟨_, he, of_decide_eq_true ((sgn_idx c h0 h1).trans h)⟩, hw⟩
theorem idx_no (c : Int) (w : World) (h0 : 0 ≤ c) (h1 : c ≤ 255) (h : isSgn c = false) : Calls Tryz.prog 103 #[.string ⟨#[40, 41, 44, 42, 43, 45, 60, 62, 61]⟩, .int .u8 c] w fun e w' => (∃ q, e = .returned (.int .i64 q) ∧ q < 0) ∧ w' = w :=
  (idx_any c w h0 h1).mono fun e w' ⟨he, hw⟩ => ⟨⟨_, he, by have := of_decide_eq_false ((sgn_idx c h0 h1).trans h); omega⟩, hw⟩

theorem signs_one (s : ByteArray) (w : World) (h0 : 0 < s.size) (h2 : ¬ (1 < s.size ∧ isTwo (bt s 0) (bt s 1) = true)) :
    Calls Tryz.prog 89 #[.string s] w fun e w' => e = .returned (.int .i64 (sgl s)) ∧ w' = w := by
  have hb := bt_bd s 0
  have HC0 : Hid (0 ≤ (s[0].toNat : Int)) := by show 0 ≤ _; omega
  have HC1 : Hid ((s[0].toNat : Int) ≤ 255) := by show _ ≤ _; rw [bt_get s 0 h0]; exact hb.2
  clear hb
  have hq : sgl s = if isSgn (bt s 0) then 1 else 0 := by
    unfold sgl
    rw [if_neg h2]
  rw [← bt_get s 0 h0] at hq
  rw [hq]
  clear hq
  by_cases hs : 2 ≤ s.size
  · have hn : isTwo (bt s 0) (bt s 1) = false := by
      cases h : isTwo (bt s 0) (bt s 1)
      · rfl
      · exact absurd ⟨by omega, h⟩ h2
    unfold isTwo at hn
    simp only [Bool.or_eq_false_iff] at hn
    have t1 : ((s.extract 0 2).toList == [60, 61]) = false := (two_eq s 60 61 hs).trans hn.1.1
    have t2 : ((s.extract 0 2).toList == [62, 61]) = false := (two_eq s 62 61 hs).trans hn.1.2
    have t3 : ((s.extract 0 2).toList == [60, 62]) = false := (two_eq s 60 62 hs).trans hn.2
    clear hn h2
    have hs2 : (2 : Int) ≤ (s.size : Int) := by omega
    cases hg : isSgn (s[0].toNat : Int)
    · have hg := hid2 hg
      go_enter Tryz.func89, Tryz.ntmps89
      go_wp2_with (go_at_call 103; refine (idx_no _ _ HC0.out HC1.out hg.out).mono ?_; rintro e w' ⟨⟨q, rfl, hq0⟩, rfl⟩)
      go_ret
      exact ⟨rfl, rfl⟩
    · have hg := hid2 hg
      go_enter Tryz.func89, Tryz.ntmps89
      go_wp2_with (go_at_call 103; refine (idx_yes _ _ HC0.out HC1.out hg.out).mono ?_; rintro e w' ⟨⟨q, rfl, hq0⟩, rfl⟩)
      go_ret
      exact ⟨rfl, rfl⟩
  · have hs2 : (s.size : Int) < 2 := by omega
    clear h2
    cases hg : isSgn (s[0].toNat : Int)
    · have hg := hid2 hg
      go_enter Tryz.func89, Tryz.ntmps89
      go_wp2_with (go_at_call 103; refine (idx_no _ _ HC0.out HC1.out hg.out).mono ?_; rintro e w' ⟨⟨q, rfl, hq0⟩, rfl⟩)
      go_ret
      exact ⟨rfl, rfl⟩
    · have hg := hid2 hg
      go_enter Tryz.func89, Tryz.ntmps89
      go_wp2_with (go_at_call 103; refine (idx_yes _ _ HC0.out HC1.out hg.out).mono ?_; rintro e w' ⟨⟨q, rfl, hq0⟩, rfl⟩)
      go_ret
      exact ⟨rfl, rfl⟩

theorem signs_two (s : ByteArray) (w : World) (h1 : 1 < s.size) (h2 : isTwo (bt s 0) (bt s 1) = true) :
    Calls Tryz.prog 89 #[.string s] w fun e w' => e = .returned (.int .i64 2) ∧ w' = w := by
  have hs2 : (2 : Int) ≤ (s.size : Int) := by omega
  unfold isTwo at h2
  cases q1 : (bt s 0 == 60 && bt s 1 == 61)
  · have t1 : ((s.extract 0 2).toList == [60, 61]) = false := (two_eq s 60 61 h1).trans q1
    cases q2 : (bt s 0 == 62 && bt s 1 == 61)
    · have t2 : ((s.extract 0 2).toList == [62, 61]) = false := (two_eq s 62 61 h1).trans q2
      have q3 : (bt s 0 == 60 && bt s 1 == 62) = true := by rw [q1, q2] at h2; simpa using h2
      have t3 : ((s.extract 0 2).toList == [60, 62]) = true := (two_eq s 60 62 h1).trans q3
      clear q1 q2 q3 h2
      go_enter Tryz.func89, Tryz.ntmps89
      go_wp2_with fail
      go_ret
      exact ⟨rfl, rfl⟩
    · have t2 : ((s.extract 0 2).toList == [62, 61]) = true := (two_eq s 62 61 h1).trans q2
      clear q1 q2 h2
      go_enter Tryz.func89, Tryz.ntmps89
      go_wp2_with fail
      go_ret
      exact ⟨rfl, rfl⟩
  · have t1 : ((s.extract 0 2).toList == [60, 61]) = true := (two_eq s 60 61 h1).trans q1
    clear q1 h2
    go_enter Tryz.func89, Tryz.ntmps89
    go_wp2_with fail
    go_ret
    exact ⟨rfl, rfl⟩

theorem signs (s : ByteArray) (w : World) (h0 : 0 < s.size) :
    Calls Tryz.prog 89 #[.string s] w fun e w' => e = .returned (.int .i64 (sgl s)) ∧ w' = w := by
  by_cases h : 1 < s.size ∧ isTwo (bt s 0) (bt s 1) = true
  · have e : sgl s = 2 := by unfold sgl; rw [if_pos h]
    rw [e]
    exact signs_two s w h.1 h.2
  · exact signs_one s w h0 h

theorem wordLen (s : ByteArray) (w : World) (h0 : 0 < s.size) (hs : s.size ≤ maxLen) : Calls Tryz.prog 50 #[.string s] w fun e w' => e = .returned (.int .i64 (wl s 0)) ∧ w' = w := by
  have eq : wl s 0 = if isLet (bt s 0) then run isLet s 0 else if isDig (bt s 0) then run isDig s 0 else sgl s := by
    unfold wl sgl; simp only [Nat.zero_add]
  have hbt := bt_get s 0 h0
  rw [eq]
  rw [← hbt]
  clear eq hbt
  have HS : Hid (s.size ≤ maxLen) := hs
  clear hs
  cases h1 : isLet (s[0].toNat : Int)
  · cases h2 : isDig (s[0].toNat : Int)
    · go_enter Tryz.func50, Tryz.ntmps50
      go_wp2_with (first | (go_at_call 86; refine (letter_any _ _).mono ?_; rintro e w' ⟨rfl, rfl⟩) | (go_at_call 88; refine (digit_any _ _).mono ?_; rintro e w' ⟨rfl, rfl⟩) | (go_at_call 89; refine (signs _ _ h0).mono ?_; rintro e w' ⟨rfl, rfl⟩))
      go_ret
      exact ⟨rfl, rfl⟩
    · go_enter Tryz.func50, Tryz.ntmps50
      go_wp2_with (first | (go_at_call 86; refine (letter_any _ _).mono ?_; rintro e w' ⟨rfl, rfl⟩) | (go_at_call 88; refine (digit_any _ _).mono ?_; rintro e w' ⟨rfl, rfl⟩) | (go_at_call 87; refine (runDig _ _ HS.out).mono ?_; rintro e w' ⟨rfl, rfl⟩))
      go_ret
      exact ⟨rfl, rfl⟩
  · go_enter Tryz.func50, Tryz.ntmps50
    go_wp2_with (first | (go_at_call 86; refine (letter_any _ _).mono ?_; rintro e w' ⟨rfl, rfl⟩) | (go_at_call 87; refine (runLet _ _ HS.out).mono ?_; rintro e w' ⟨rfl, rfl⟩))
    go_ret
    exact ⟨rfl, rfl⟩
end Go.Proofs.YtaomljdbndajgaaGreatDoor
/- The contract of lexer.Words, over this seat's translation: the words of a text, or an error. Conditions: none but that a text has fewer than 2^63 bytes. -/
namespace Go.Proofs.YtaomljdbndajgaaGreatDoor
open Go.RowKit
set_option linter.unusedVariables false
set_option linter.unusedSimpArgs false

theorem ext_size (s : ByteArray) (a : Nat) (h : a ≤ s.size) : (s.extract a s.size).size = s.size - a := by
  rw [Lib.size_eq, Lib.extract_to_end, List.length_drop, ← Lib.size_eq]
theorem bt_ext (s : ByteArray) (a j : Nat) : bt (s.extract a s.size) j = bt s (a + j) := by
  unfold bt
  rw [Lib.extract_to_end]
  simp [List.getD]
theorem runN_ext (p : Int → Bool) (s : ByteArray) (a : Nat) (h : a ≤ s.size) : ∀ f j, runN p (s.extract a s.size) f j = runN p s f (a + j)
  | 0, _ => rfl
  | f + 1, j => by
    unfold runN
    rw [runN_ext p s a h f (j + 1), ext_size s a h, bt_ext, Nat.add_assoc]
    by_cases h1 : j < s.size - a ∧ p (bt s (a + j)) = true
    · rw [if_pos h1, if_pos ⟨by omega, h1.2⟩]
    · rw [if_neg h1, if_neg (fun q => h1 ⟨by omega, q.2⟩)]
theorem wl_ext (s : ByteArray) (a : Nat) (h : a ≤ s.size) : wl (s.extract a s.size) 0 = wl s a := by
  unfold wl run
  rw [runN_ext _ _ _ h, runN_ext _ _ _ h, ext_size s a h, bt_ext, bt_ext]
  simp only [Nat.sub_zero, Nat.add_zero, Nat.zero_add]
  have e : (1 < s.size - a) = (a + 1 < s.size) := propext ⟨fun _ => by omega, fun _ => by omega⟩
  simp only [e]

theorem wordLenAt (s : ByteArray) (k : Nat) (w : World) (h : k < s.size) (hs : s.size ≤ maxLen) : Calls Tryz.prog 50 #[.string (s.extract k s.size)] w fun e w' => e = .returned (.int .i64 (wl s k)) ∧ w' = w := by
  rw [← wl_ext s k (by omega)]
  exact wordLen _ w (by rw [ext_size s k (by omega)]; omega) (by rw [ext_size s k (by omega)]; omega)

theorem infoS : (Tryz.prog.info? 9).map (fun i => (i.zero, i.size, i.bytes)) = some (some (.string ⟨#[]⟩), 1, 16) := by kernel_rfl

theorem owns_shape {w : World} {base : Nat} {e : TypeId} {size : Nat} {v : Value} {n : Nat} {xs : List Value} (h : w.ownsRow base e size v n xs) : ∃ ao cap, v = .slice ao n cap := by
  rcases h.2 with ⟨rfl, rfl⟩ | ⟨g, cap, cur, rfl, _⟩
  · exact ⟨none, 0, rfl⟩
  · exact ⟨_, cap, rfl⟩

/-- one word more -/
theorem own_word {w0 wr w1 : World} {v v' : Value} {ws : List ByteArray} {x : ByteArray} {o : Obj} (hb : Below w0.heap.size w0 wr) (ho : wr.ownsRow w0.heap.size 9 1 v ws.length (ws.map Value.string))
    (ho' : w1.ownsRow w0.heap.size 9 1 v' (ws.length + 1) (ws.map Value.string ++ [.string x])) (hg : (wr.alloc o).grownBy w1 v.ownBlock) :
    w1.ownsRow w0.heap.size 9 1 v' (ws ++ [x]).length ((ws ++ [x]).map Value.string) ∧ Below w0.heap.size w0 w1 := by
  refine ⟨by simpa using ho', ?_⟩
  exact (hb.alloc hb.size o).grown hg (by have := hb.size; simp; omega) (fun k hk => (ho.lt k hk).1)

set_option maxRecDepth 100000 in
theorem words_long (s : ByteArray) (w : World) (h : 240 < s.size) : Calls Tryz.prog 30 #[.string s] w fun e w' => ∃ v, e = .returned (.tuple #[v, errV (lexT s).1]) ∧ w'.ownsRow w.heap.size 9 1 v (lexT s).2.length ((lexT s).2.map Value.string) ∧ Below w.heap.size w w' := by
  have e : lexT s = (2, []) := by unfold lexT; rw [if_neg (by omega)]
  rw [e]
  go_enter Tryz.func30, Tryz.ntmps30
  go_wp2
  go_ret2
  exact ⟨_, rfl, World.ownsRow_nil _ _ _ _, Below.refl _ _⟩

set_option maxRecDepth 100000 in
set_option maxHeartbeats 1000000 in
theorem words_short (s : ByteArray) (w : World) (h : s.size ≤ 240) : Calls Tryz.prog 30 #[.string s] w fun e w' => ∃ v, e = .returned (.tuple #[v, errV (lexT s).1]) ∧ w'.ownsRow w.heap.size 9 1 v (lexT s).2.length ((lexT s).2.map Value.string) ∧ Below w.heap.size w w' := by
  obtain ⟨i0, hi, hz0, hz1, hz2⟩ := info_parts infoS
  have hm : Hid (s.size ≤ maxLen) := by show s.size ≤ 2 ^ 63 - 1; omega
  have hl := left_start s h
  generalize lexT s = T at hl
  have HL : Hid (Left_ s 0 [] T) := hl
  clear hl
  go_enter Tryz.func30, Tryz.ntmps30
  go_wp2_with fail
  go_loopw [4, 5] (fun v i wr => ∃ (k : Nat) (ws : List ByteArray), k ≤ s.size ∧ i = .int .i64 k ∧ ws.length ≤ 80 ∧ Hid (wr.ownsRow w.heap.size 9 1 v ws.length (ws.map Value.string)) ∧ Hid (Below w.heap.size w wr) ∧ Hid (Left_ s k ws T)) (fun _ i _ => s.size - (intOf i).toNat)
  case atStart => exact ⟨0, [], Nat.zero_le _, rfl, by simp, World.ownsRow_nil _ _ _ _, Below.refl _ _, HL⟩
  case round =>
    clear HL
    obtain ⟨k, ws, hk, rfl, hn, HO, HB, HL⟩ := hrel
    obtain ⟨ao, cap, rfl⟩ := owns_shape HO.out
    by_cases hlt : k < s.size
    · by_cases hb : bt s k = 32
      · have L := left_blank HL.out hlt hb
        have L := hid2 L
        have hb2 : ((s[k].toNat : Int) == 32) = true := by rw [bt_get s k hlt, hb]; rfl
        clear hb
        go_wp2_with fail
        go_roundw
        case rel => exact ⟨k + 1, ws, by omega, by go_num, hn, HO, HB, L⟩
        case measure => simp [intOf]; omega
      · have hb2 : ((s[k].toNat : Int) == 32) = false := by rw [bt_get s k hlt]; simpa using hb
        have HN := hid2 hb
        clear hb
        have hwl := wl_le s k hlt
        by_cases hw : wl s k = 0
        · have e := left_none HL.out hlt HN.out hw
          subst e
          have hw2 : (((wl s k : Nat) : Int) == 0) = true := by simp [hw]
          clear hw
          go_wp2_with (go_at_call 50; refine (wordLenAt s k _ hlt hm.out).mono ?_; rintro e w' ⟨rfl, rfl⟩)
          go_ret2
          exact ⟨_, rfl, World.ownsRow_nil _ _ _ _, HB.out⟩
        · have hw2 : (((wl s k : Nat) : Int) == 0) = false := by simp; omega
          have HW := hid2 hw
          clear hw
          by_cases hc : ws.length = 80
          · have e := left_many HL.out hlt HN.out HW.out hc
            subst e
            have hc2 : (((ws.length : Nat) : Int) == 80) = true := by simp [hc]
            clear hc
            go_wp2_with (go_at_call 50; refine (wordLenAt s k _ hlt hm.out).mono ?_; rintro e w' ⟨rfl, rfl⟩)
            go_ret2
            exact ⟨_, rfl, World.ownsRow_nil _ _ _ _, HB.out⟩
          · have L := hid2 (left_word HL.out hlt HN.out HW.out hc)
            have hc2 : (((ws.length : Nat) : Int) == 80) = false := by simp; omega
            have hc3 : ws.length + 1 ≤ 80 := by omega
            clear hc
            go_wp2_with (first | (go_at_call 50; refine (wordLenAt s k _ hlt hm.out).mono ?_; rintro e w' ⟨rfl, rfl⟩) | (at_builtin; go_must (refine wpList_append_own _ rfl (.tmp 32) (.tmp 39) 75 rfl w.heap.size 9 i0 (.string ⟨#[]⟩) 1 16 Tryz.underlying75 hi hz0 hz1 hz2 rfl (by decide) _ _ _ rfl (HO.out.alloc _) ⟨w'.heap.size, 0, none⟩ 1 1 [.string (s.extract k (k + wl s k))] rfl rfl (cell_one_new _ _ _) (by intro u hu; simp at hu; subst hu; rfl) (by show _ ≤ 2 ^ 63 - 1; omega) (by omega) (by have := HB.out.size; simp; omega) ?_)))
            intro v' w1 ho' hg _
            have R := own_word HB.out HO.out ho' hg
            have R := hid2 R
            clear ho' hg
            go_wp2_with fail
            go_roundw
            case rel => exact ⟨k + wl s k, _, by omega, by go_num, by simpa using hc3, R.out.1, R.out.2, L⟩
            case measure => simp [intOf]; have := HW.out; omega
    · have e := left_end HL.out (by omega)
      subst e
      have hge : ¬ ((k : Int) < (s.size : Int)) := by omega
      go_wp2_with fail
      go_ret2
      exact ⟨_, rfl, HO.out, HB.out⟩

theorem words_any (s : ByteArray) (w : World) : Calls Tryz.prog 30 #[.string s] w fun e w' => ∃ v, e = .returned (.tuple #[v, errV (lexT s).1]) ∧ w'.ownsRow w.heap.size 9 1 v (lexT s).2.length ((lexT s).2.map Value.string) ∧ Below w.heap.size w w' := by
  by_cases h : s.size ≤ 240
  · exact words_short s w h
  · exact words_long s w (by omega)
end Go.Proofs.YtaomljdbndajgaaGreatDoor

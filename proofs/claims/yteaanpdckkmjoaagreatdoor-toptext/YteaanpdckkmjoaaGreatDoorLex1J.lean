/- Several texts in one, each with its own head. What is proved: what the parts say. Conditions: theirs. -/
import Derived.Test.YteaanpdckkmjoaaGreatDoorRows
import Derived.Test.YteaanpdckkmjoaaGreatDoorKinJ
import Derived.ProofKit
import Derived.OwnWalk
import Derived.Outline
import Derived.WalkSpells
import Derived.Lib.Bytealg
import Derived.WalkKit
import Derived.OpenShut
import Derived.ShutString
import Derived.ChangeOld
import Derived.Below
import Derived.Deep.QuietTactic
import Derived.BigQuiet
import Derived.RegionTactic
import Derived.Deep.RegionWith
import Derived.Deep.DeepMust
/- Contracts of the small functions of package lexer, over this seat's translation. Conditions: none. -/
namespace Go.Proofs.YteaanpdckkmjoaaGreatDoor
open Go.RowKit
set_option linter.unusedVariables false
set_option linter.unusedSimpArgs false

theorem ret_i {k : IntKind} {a b : Int} (h : a = b) : Ending.returned (.int k a) = .returned (.int k b) := by rw [h]

theorem letter_any (c : Int) (w : World) : Calls Tryz.prog 73 #[.int .u8 c] w fun e w' => e = .returned (.bool (isLet c)) ∧ w' = w := by
  by_cases h1 : 97 ≤ c
  · by_cases h2 : c ≤ 122
    · have e : isLet c = true := decide_eq_true ⟨h1, h2⟩
      rw [e]; clear e
      go_enter Tryz.func73, Tryz.ntmps73
      go_wp2
      go_ret
      exact ⟨rfl, rfl⟩
    · have e : isLet c = false := decide_eq_false (by omega)
      have hd : decide (c ≤ 122) = false := decide_eq_false h2
      rw [e]; clear e
      go_enter Tryz.func73, Tryz.ntmps73
      go_wp2
      go_ret
      exact ⟨rfl, rfl⟩
  · have e : isLet c = false := decide_eq_false (by omega)
    have hd : decide (97 ≤ c) = false := decide_eq_false h1
    rw [e]; clear e
    go_enter Tryz.func73, Tryz.ntmps73
    go_wp2
    go_ret
    exact ⟨rfl, rfl⟩

theorem digit_any (c : Int) (w : World) : Calls Tryz.prog 75 #[.int .u8 c] w fun e w' => e = .returned (.bool (isDig c)) ∧ w' = w := by
  by_cases h1 : 48 ≤ c
  · by_cases h2 : c ≤ 57
    · have e : isDig c = true := decide_eq_true ⟨h1, h2⟩
      rw [e]; clear e
      go_enter Tryz.func75, Tryz.ntmps75
      go_wp2
      go_ret
      exact ⟨rfl, rfl⟩
    · have e : isDig c = false := decide_eq_false (by omega)
      have hd : decide (c ≤ 57) = false := decide_eq_false h2
      rw [e]; clear e
      go_enter Tryz.func75, Tryz.ntmps75
      go_wp2
      go_ret
      exact ⟨rfl, rfl⟩
  · have e : isDig c = false := decide_eq_false (by omega)
    have hd : decide (48 ≤ c) = false := decide_eq_false h1
    rw [e]; clear e
    go_enter Tryz.func75, Tryz.ntmps75
    go_wp2
    go_ret
    exact ⟨rfl, rfl⟩

theorem bt_get (s : ByteArray) (k : Nat) (h : k < s.size) : (s[k].toNat : Int) = bt s k := by
  unfold bt
  have h2 : k < s.data.toList.length := by simpa using h
  simp only [List.getD, List.getElem?_eq_getElem h2, Option.getD_some]
  rfl

theorem runLet (s : ByteArray) (w : World) (hs : s.size ≤ maxLen) :
    Calls Tryz.prog 74 #[.string s, .func (Fn.func 73) #[] #[]] w fun e w' => e = .returned (.int .i64 (run isLet s 0)) ∧ w' = w := by
  unfold maxLen at hs
  generalize hr : ((run isLet s 0 : Nat) : Int) = r
  have HR : Hid (((run isLet s 0 : Nat) : Int) = r) := hr
  clear hr
  go_enter Tryz.func74, Tryz.ntmps74
  go_wp2_with fail
  go_loop [5] (fun i => ∃ k : Nat, k ≤ s.size ∧ i = .int .i64 k ∧ Hid (∀ j, j < k → isLet (bt s j) = true)) (fun i => s.size - (intOf i).toNat)
  case atStart => exact ⟨0, Nat.zero_le _, rfl, fun j hj => absurd hj (by omega)⟩
  case round =>
    obtain ⟨k, hk, rfl, HA⟩ := hrel
    by_cases hlt : k < s.size
    · go_wp2_with (go_at_call 73; refine (letter_any _ _).mono ?_; rintro e w' ⟨rfl, rfl⟩)
      · have q : isLet (s[k].toNat : Int) = true := by assumption
        rw [bt_get s k hlt] at q
        go_round
        case rel => exact ⟨k + 1, by omega, by go_num, fun j hj => by
          by_cases hjk : j = k
          · subst hjk; exact q
          · exact HA.out j (by omega)⟩
        case measure => simp [intOf]; omega
      · have q : isLet (s[k].toNat : Int) = false := by assumption
        rw [bt_get s k hlt] at q
        have e : run isLet s 0 = k := by rw [run_of isLet s 0 k (by omega) (by omega) (fun j _ hj => HA.out j hj) (.inr q)]; omega
        go_ret
        exact ⟨ret_i (by rw [← HR.out, e]), rfl⟩
    · have e : run isLet s 0 = k := by rw [run_of isLet s 0 k (by omega) (by omega) (fun j _ hj => HA.out j hj) (.inl (by omega))]; omega
      have E : Hid (run isLet s 0 = k) := e
      clear e
      go_wp2_with fail
      go_ret
      exact ⟨ret_i (by rw [← HR.out, E.out]), rfl⟩

theorem runDig (s : ByteArray) (w : World) (hs : s.size ≤ maxLen) :
    Calls Tryz.prog 74 #[.string s, .func (Fn.func 75) #[] #[]] w fun e w' => e = .returned (.int .i64 (run isDig s 0)) ∧ w' = w := by
  unfold maxLen at hs
  generalize hr : ((run isDig s 0 : Nat) : Int) = r
  have HR : Hid (((run isDig s 0 : Nat) : Int) = r) := hr
  clear hr
  go_enter Tryz.func74, Tryz.ntmps74
  go_wp2_with fail
  go_loop [5] (fun i => ∃ k : Nat, k ≤ s.size ∧ i = .int .i64 k ∧ Hid (∀ j, j < k → isDig (bt s j) = true)) (fun i => s.size - (intOf i).toNat)
  case atStart => exact ⟨0, Nat.zero_le _, rfl, fun j hj => absurd hj (by omega)⟩
  case round =>
    obtain ⟨k, hk, rfl, HA⟩ := hrel
    by_cases hlt : k < s.size
    · go_wp2_with (go_at_call 75; refine (digit_any _ _).mono ?_; rintro e w' ⟨rfl, rfl⟩)
      · have q : isDig (s[k].toNat : Int) = true := by assumption
        rw [bt_get s k hlt] at q
        go_round
        case rel => exact ⟨k + 1, by omega, by go_num, fun j hj => by
          by_cases hjk : j = k
          · subst hjk; exact q
          · exact HA.out j (by omega)⟩
        case measure => simp [intOf]; omega
      · have q : isDig (s[k].toNat : Int) = false := by assumption
        rw [bt_get s k hlt] at q
        have e : run isDig s 0 = k := by rw [run_of isDig s 0 k (by omega) (by omega) (fun j _ hj => HA.out j hj) (.inr q)]; omega
        go_ret
        exact ⟨ret_i (by rw [← HR.out, e]), rfl⟩
    · have e : run isDig s 0 = k := by rw [run_of isDig s 0 k (by omega) (by omega) (fun j _ hj => HA.out j hj) (.inl (by omega))]; omega
      have E : Hid (run isDig s 0 = k) := e
      clear e
      go_wp2_with fail
      go_ret
      exact ⟨ret_i (by rw [← HR.out, E.out]), rfl⟩

theorem idx_call (s : ByteArray) (c : Int) (w : World) : (callFunc 123 #[.string s, .int .u8 c]).run Tryz.prog w = .ok (.value (.int .i64 (Lib.indexByte s.data.toList c.toNat.toUInt8))) w := by
  rw [run_callFunc_extern Tryz.func123 (by kernel_rfl) (by kernel_rfl) (by kernel_rfl) (e := Extern.BytealgIndexByte.indexByte) (by kernel_rfl), Lib.run_indexByteString]
  rfl

theorem sgn_idx (c : Int) (h0 : 0 ≤ c) (h1 : c ≤ 255) : decide (0 ≤ Lib.indexByte [40, 41, 44, 42, 43, 45, 60, 62, 61] c.toNat.toUInt8) = isSgn c := by
  obtain ⟨n, rfl⟩ := Int.eq_ofNat_of_zero_le h0
  have hn : n < 256 := by omega
  clear h0 h1
  revert n
  decide +kernel

theorem idx_any (c : Int) (w : World) (h0 : 0 ≤ c) (h1 : c ≤ 255) : Calls Tryz.prog 97 #[.string ⟨#[40, 41, 44, 42, 43, 45, 60, 62, 61]⟩, .int .u8 c] w fun e w' => e = .returned (.int .i64 (Lib.indexByte [40, 41, 44, 42, 43, 45, 60, 62, 61] c.toNat.toUInt8)) ∧ w' = w := by
  have hd := idx_call ⟨#[40, 41, 44, 42, 43, 45, 60, 62, 61]⟩ c w
  go_enter Tryz.func97, Tryz.ntmps97
  go_wp2
  go_ret
  exact ⟨rfl, rfl⟩

theorem u8_eq (a b : UInt8) : (a == b) = ((a.toNat : Int) == (b.toNat : Int)) := by
  rw [Bool.eq_iff_iff]
  simp only [beq_iff_eq]
  constructor
  · rintro rfl; rfl
  · intro h; exact UInt8.toNat_inj.1 (by omega)

theorem two_eq (s : ByteArray) (a b : UInt8) (h : 2 ≤ s.size) : ((s.extract 0 2).toList == [a, b]) = (bt s 0 == (a.toNat : Int) && bt s 1 == (b.toNat : Int)) := by
  have e : (s.extract 0 2).toList = s.data.toList.take 2 := by
    rw [ByteArray.toList_eq, Lib.extract_data]; simp
  rw [e]
  unfold bt
  have hl : 2 ≤ s.data.toList.length := by simpa using h
  generalize s.data.toList = l at hl
  match l, hl with
  | x :: y :: r, _ => simp [u8_eq]
end Go.Proofs.YteaanpdckkmjoaaGreatDoor
/- Contracts of lexer.signLength and lexer.wordLength, over this seat's translation. Conditions: the text is not empty. -/
namespace Go.Proofs.YteaanpdckkmjoaaGreatDoor
open Go.RowKit
set_option linter.unusedVariables false
set_option linter.unusedSimpArgs false

/-- the length of the sign at the beginning -/
def sgl (s : ByteArray) : Nat := if 1 < s.size ∧ isTwo (bt s 0) (bt s 1) = true then 2 else if isSgn (bt s 0) then 1 else 0

theorem hid2 {p : Prop} (h : p) : Hid p := h

theorem bt_bd (s : ByteArray) (k : Nat) : 0 ≤ bt s k ∧ bt s k ≤ 255 := by
  unfold bt
  have := (s.data.toList.getD k 0).toNat_lt
  omega

theorem idx_yes (c : Int) (w : World) (h0 : 0 ≤ c) (h1 : c ≤ 255) (h : isSgn c = true) : Calls Tryz.prog 97 #[.string ⟨#[40, 41, 44, 42, 43, 45, 60, 62, 61]⟩, .int .u8 c] w fun e w' => (∃ q, e = .returned (.int .i64 q) ∧ 0 ≤ q) ∧ w' = w :=
  (idx_any c w h0 h1).mono fun e w' ⟨he, hw⟩ => ⟨⟨_, he, of_decide_eq_true ((sgn_idx c h0 h1).trans h)⟩, hw⟩
theorem idx_no (c : Int) (w : World) (h0 : 0 ≤ c) (h1 : c ≤ 255) (h : isSgn c = false) : Calls Tryz.prog 97 #[.string ⟨#[40, 41, 44, 42, 43, 45, 60, 62, 61]⟩, .int .u8 c] w fun e w' => (∃ q, e = .returned (.int .i64 q) ∧ q < 0) ∧ w' = w :=
  (idx_any c w h0 h1).mono fun e w' ⟨he, hw⟩ => ⟨⟨_, he, by have := of_decide_eq_false ((sgn_idx c h0 h1).trans h); omega⟩, hw⟩

theorem signs_one (s : ByteArray) (w : World) (h0 : 0 < s.size) (h2 : ¬ (1 < s.size ∧ isTwo (bt s 0) (bt s 1) = true)) :
    Calls Tryz.prog 76 #[.string s] w fun e w' => e = .returned (.int .i64 (sgl s)) ∧ w' = w := by
  have hb := bt_bd s 0
  have HC0 : Hid (0 ≤ (s[0].toNat : Int)) := by show 0 ≤ _; omega
  have HC1 : Hid ((s[0].toNat : Int) ≤ 255) := by show _ ≤ _; rw [bt_get s 0 h0]; exact hb.2
  clear hb
  have hq : sgl s = if isSgn (bt s 0) then 1 else 0 := by
    unfold sgl
    rw [if_neg h2]
  rw [← bt_get s 0 h0] at hq
  rw [hq]
  clear hq
  by_cases hs : 2 ≤ s.size
  · have hn : isTwo (bt s 0) (bt s 1) = false := by
      cases h : isTwo (bt s 0) (bt s 1)
      · rfl
      · exact absurd ⟨by omega, h⟩ h2
    unfold isTwo at hn
    simp only [Bool.or_eq_false_iff] at hn
    have t1 : ((s.extract 0 2).toList == [60, 61]) = false := (two_eq s 60 61 hs).trans hn.1.1
    have t2 : ((s.extract 0 2).toList == [62, 61]) = false := (two_eq s 62 61 hs).trans hn.1.2
    have t3 : ((s.extract 0 2).toList == [60, 62]) = false := (two_eq s 60 62 hs).trans hn.2
    clear hn h2
    have hs2 : (2 : Int) ≤ (s.size : Int) := by omega
    cases hg : isSgn (s[0].toNat : Int)
    · have hg := hid2 hg
      go_enter Tryz.func76, Tryz.ntmps76
      go_wp2_with (go_at_call 97; refine (idx_no _ _ HC0.out HC1.out hg.out).mono ?_; rintro e w' ⟨⟨q, rfl, hq0⟩, rfl⟩)
      go_ret
      exact ⟨rfl, rfl⟩
    · have hg := hid2 hg
      go_enter Tryz.func76, Tryz.ntmps76
      go_wp2_with (go_at_call 97; refine (idx_yes _ _ HC0.out HC1.out hg.out).mono ?_; rintro e w' ⟨⟨q, rfl, hq0⟩, rfl⟩)
      go_ret
      exact ⟨rfl, rfl⟩
  · have hs2 : (s.size : Int) < 2 := by omega
    clear h2
    cases hg : isSgn (s[0].toNat : Int)
    · have hg := hid2 hg
      go_enter Tryz.func76, Tryz.ntmps76
      go_wp2_with (go_at_call 97; refine (idx_no _ _ HC0.out HC1.out hg.out).mono ?_; rintro e w' ⟨⟨q, rfl, hq0⟩, rfl⟩)
      go_ret
      exact ⟨rfl, rfl⟩
    · have hg := hid2 hg
      go_enter Tryz.func76, Tryz.ntmps76
      go_wp2_with (go_at_call 97; refine (idx_yes _ _ HC0.out HC1.out hg.out).mono ?_; rintro e w' ⟨⟨q, rfl, hq0⟩, rfl⟩)
      go_ret
      exact ⟨rfl, rfl⟩

theorem signs_two (s : ByteArray) (w : World) (h1 : 1 < s.size) (h2 : isTwo (bt s 0) (bt s 1) = true) :
    Calls Tryz.prog 76 #[.string s] w fun e w' => e = .returned (.int .i64 2) ∧ w' = w := by
  have hs2 : (2 : Int) ≤ (s.size : Int) := by omega
  unfold isTwo at h2
  cases q1 : (bt s 0 == 60 && bt s 1 == 61)
  · have t1 : ((s.extract 0 2).toList == [60, 61]) = false := (two_eq s 60 61 h1).trans q1
    cases q2 : (bt s 0 == 62 && bt s 1 == 61)
    · have t2 : ((s.extract 0 2).toList == [62, 61]) = false := (two_eq s 62 61 h1).trans q2
      have q3 : (bt s 0 == 60 && bt s 1 == 62) = true := by rw [q1, q2] at h2; simpa using h2
      have t3 : ((s.extract 0 2).toList == [60, 62]) = true := (two_eq s 60 62 h1).trans q3
      clear q1 q2 q3 h2
      go_enter Tryz.func76, Tryz.ntmps76
      go_wp2_with fail
      go_ret
      exact ⟨rfl, rfl⟩
    · have t2 : ((s.extract 0 2).toList == [62, 61]) = true := (two_eq s 62 61 h1).trans q2
      clear q1 q2 h2
      go_enter Tryz.func76, Tryz.ntmps76
      go_wp2_with fail
      go_ret
      exact ⟨rfl, rfl⟩
  · have t1 : ((s.extract 0 2).toList == [60, 61]) = true := (two_eq s 60 61 h1).trans q1
    clear q1 h2
    go_enter Tryz.func76, Tryz.ntmps76
    go_wp2_with fail
    go_ret
    exact ⟨rfl, rfl⟩

theorem signs (s : ByteArray) (w : World) (h0 : 0 < s.size) :
    Calls Tryz.prog 76 #[.string s] w fun e w' => e = .returned (.int .i64 (sgl s)) ∧ w' = w := by
  by_cases h : 1 < s.size ∧ isTwo (bt s 0) (bt s 1) = true
  · have e : sgl s = 2 := by unfold sgl; rw [if_pos h]
    rw [e]
    exact signs_two s w h.1 h.2
  · exact signs_one s w h0 h

theorem wordLen (s : ByteArray) (w : World) (h0 : 0 < s.size) (hs : s.size ≤ maxLen) : Calls Tryz.prog 49 #[.string s] w fun e w' => e = .returned (.int .i64 (wl s 0)) ∧ w' = w := by
  have eq : wl s 0 = if isLet (bt s 0) then run isLet s 0 else if isDig (bt s 0) then run isDig s 0 else sgl s := by
    unfold wl sgl; simp only [Nat.zero_add]
  have hbt := bt_get s 0 h0
  rw [eq]
  rw [← hbt]
  clear eq hbt
  have HS : Hid (s.size ≤ maxLen) := hs
  clear hs
  cases h1 : isLet (s[0].toNat : Int)
  · cases h2 : isDig (s[0].toNat : Int)
    · go_enter Tryz.func49, Tryz.ntmps49
      go_wp2_with (first | (go_at_call 73; refine (letter_any _ _).mono ?_; rintro e w' ⟨rfl, rfl⟩) | (go_at_call 75; refine (digit_any _ _).mono ?_; rintro e w' ⟨rfl, rfl⟩) | (go_at_call 76; refine (signs _ _ h0).mono ?_; rintro e w' ⟨rfl, rfl⟩))
      go_ret
      exact ⟨rfl, rfl⟩
    · go_enter Tryz.func49, Tryz.ntmps49
      go_wp2_with (first | (go_at_call 73; refine (letter_any _ _).mono ?_; rintro e w' ⟨rfl, rfl⟩) | (go_at_call 75; refine (digit_any _ _).mono ?_; rintro e w' ⟨rfl, rfl⟩) | (go_at_call 74; refine (runDig _ _ HS.out).mono ?_; rintro e w' ⟨rfl, rfl⟩))
      go_ret
      exact ⟨rfl, rfl⟩
  · go_enter Tryz.func49, Tryz.ntmps49
    go_wp2_with (first | (go_at_call 73; refine (letter_any _ _).mono ?_; rintro e w' ⟨rfl, rfl⟩) | (go_at_call 74; refine (runLet _ _ HS.out).mono ?_; rintro e w' ⟨rfl, rfl⟩))
    go_ret
    exact ⟨rfl, rfl⟩
end Go.Proofs.YteaanpdckkmjoaaGreatDoor
/- What the walks of this seat share: rows of cells in slices, and worlds that keep what was there. Conditions: none. -/
namespace Go.Proofs.YteaanpdckkmjoaaGreatDoor
open Go.ChangeShapes Go.WideShapes Go.ChangeAt Go.RowKit
set_option linter.unusedVariables false
set_option linter.unusedSimpArgs false

theorem hidE {p : Prop} (h : p) : Hid p := h

theorem bcell {W w1 : World} (hb : Below W.heap.size W w1) : (∀ b o, b < W.heap.size → w1.cell? ⟨b, o, none⟩ = W.cell? ⟨b, o, none⟩) ∧ (∀ b o, b < W.heap.size → w1.frozen? ⟨b, o, none⟩ = W.frozen? ⟨b, o, none⟩) :=
  ⟨fun b o h => hb.cell (p := ⟨b, o, none⟩) h, fun b o h => hb.frozen (p := ⟨b, o, none⟩) h⟩

theorem nxt {W0 wx wy : World} (h : Hid (Below W0.heap.size W0 wx)) (hb : Below wx.heap.size wx wy) : Hid (Below W0.heap.size W0 wy) := h.out.trans (hb.mono h.out.size)

theorem nxtd {W0 wx : World} (h : Hid (Below W0.heap.size W0 wx)) : Hid (Below W0.heap.size W0 wx.drew) := h.out.drew

theorem nxta {W0 wx : World} (h : Hid (Below W0.heap.size W0 wx)) (o : Obj) : Hid (Below W0.heap.size W0 (wx.alloc o)) := h.out.alloc h.out.size o

theorem rules {W0 wx : World} (h : Hid (Below W0.heap.size W0 wx)) : (∀ b o, b < W0.heap.size → wx.cell? ⟨b, o, none⟩ = W0.cell? ⟨b, o, none⟩) ∧ (∀ b o, b < W0.heap.size → wx.frozen? ⟨b, o, none⟩ = W0.frozen? ⟨b, o, none⟩) := bcell h.out

theorem done {w W0 wx : World} (h0 : Below w.heap.size w W0) (h : Hid (Below W0.heap.size W0 wx)) : Below w.heap.size w wx := h0.trans (h.out.mono h0.size)

theorem ended {w W0 wx : World} {g : Nat} (h : Hid (Below W0.heap.size W0 wx)) (h0 : Below w.heap.size w W0) (x y : Value) (hg : w.heap.size ≤ g := by omega) : Below w.heap.size w ((wx.setCell ⟨g, 0, none⟩ x).setCell ⟨g, 1, none⟩ y) :=
  ((done h0 h).setCell (p := ⟨g, 0, none⟩) hg x).setCell (p := ⟨g, 1, none⟩) hg y

def RowG (w : World) (v : Value) (size n : Nat) (xs : List Value) : Prop :=
  xs.length = n * size ∧ (((∃ ao cap, v = .slice ao 0 cap) ∧ n = 0) ∨ ∃ g off cap, v = .slice (some ⟨g, off, none⟩) n cap ∧ n ≤ cap ∧ cap ≤ maxLen ∧ g < w.heap.size ∧ ∀ j, j < n * size → w.cell? ⟨g, off + j, none⟩ = xs[j]?)

theorem rowG_of_owns {w : World} {base size n : Nat} {e : TypeId} {v : Value} {xs : List Value} (h : w.ownsRow base e size v n xs) : RowG w v size n xs := by
  obtain ⟨h0, h1⟩ := h
  refine ⟨h0, ?_⟩
  rcases h1 with ⟨rfl, hn⟩ | ⟨g, cap, cur, rfl, hb, hg, hle, hm, hs, ht⟩
  · exact .inl ⟨⟨_, _, rfl⟩, hn⟩
  · have hsz : g < w.heap.size := (Array.getElem?_eq_some_iff.1 hg).1
    refine .inr ⟨g, 0, cap, rfl, hle, hm, hsz, fun i hi => ?_⟩
    have hc := World.ownsRow.cellAt (w := w) (base := base) (e := e) (size := size) (g := g) (n := n) (cap := cap) ⟨h0, .inr ⟨g, cap, cur, rfl, hb, hg, hle, hm, hs, ht⟩⟩ i hi
    rw [Nat.zero_add, hc]

theorem rowG_below {w w' : World} {size n : Nat} {v : Value} {xs : List Value} (h : RowG w v size n xs) (hb : Below w.heap.size w w') : RowG w' v size n xs := by
  obtain ⟨h0, h⟩ := h
  refine ⟨h0, ?_⟩
  rcases h with h | ⟨g, off, cap, h1, h2, h3, h4, h5⟩
  · exact .inl h
  · exact .inr ⟨g, off, cap, h1, h2, h3, Nat.lt_of_lt_of_le h4 hb.size, fun i hi => by rw [hb.cell (p := ⟨g, off + i, none⟩) h4]; exact h5 i hi⟩

theorem rowG_shape {w : World} {size n : Nat} {v : Value} {xs : List Value} (h : RowG w v size n xs) : ∃ ao cap, v = .slice ao n cap := by
  rcases h.2 with ⟨⟨ao, cap, rfl⟩, rfl⟩ | ⟨g, off, cap, rfl, _⟩
  · exact ⟨ao, cap, rfl⟩
  · exact ⟨_, _, rfl⟩

theorem rowG_lit (w : World) (e : TypeId) (l : List Value) (g n : Nat) (hg : g = w.heap.size) (hn : n = l.length) (hm : n ≤ maxLen) : RowG (w.alloc (.cells l.toArray e)) (.slice (some ⟨g, 0, none⟩) n n) 1 n l := by
  subst hg hn
  have h := World.ownsRow_lit (base := 0) (size := 1) (e := e) w l.toArray l.length (Nat.zero_le _) hm (by simp)
  exact rowG_of_owns (base := 0) (by simpa using h)

theorem rowG_cell {w : World} {n : Nat} {ao : Option Addr} {cap : Nat} {xs : List Value} (h : RowG w (.slice ao n cap) 1 n xs) (j : Nat) (hj : j < n) :
    ∃ g off x, ao = some ⟨g, off, none⟩ ∧ xs[j]? = some x ∧ w.cell? ⟨g, off + j, none⟩ = some x ∧ n ≤ cap ∧ cap ≤ maxLen ∧ g < w.heap.size := by
  obtain ⟨h0, h⟩ := h
  rcases h with ⟨-, h⟩ | ⟨g, off, cap', e, h1, h2, h3, h4⟩
  · omega
  · simp only [Value.slice.injEq] at e
    obtain ⟨rfl, -, rfl⟩ := e
    have hx := h4 j (by omega)
    rw [List.getElem?_eq_getElem (by omega)] at hx
    exact ⟨g, off, _, rfl, List.getElem?_eq_getElem (by omega), hx, h1, h2, h3⟩

theorem own_keep {w w' : World} {B base : Nat} {e : TypeId} {size n : Nat} {v : Value} {xs : List Value} (h : w.ownsRow base e size v n xs) (hb : Below B w w') (hB : w.heap.size ≤ B) : w'.ownsRow base e size v n xs := by
  obtain ⟨h0, h1⟩ := h
  refine ⟨h0, ?_⟩
  rcases h1 with h1 | ⟨g, cap, cur, e1, hb', hg, hle, hm, hs, ht⟩
  · exact .inl h1
  · have hsz : g < w.heap.size := (Array.getElem?_eq_some_iff.1 hg).1
    exact .inr ⟨g, cap, cur, e1, hb', by rw [hb.block g (by omega)]; exact hg, hle, hm, hs, ht⟩

theorem owns_shapeE {w : World} {base : Nat} {e : TypeId} {size : Nat} {v : Value} {n : Nat} {xs : List Value} (h : w.ownsRow base e size v n xs) : ∃ ao cap, v = .slice ao n cap := by
  rcases h.2 with ⟨rfl, rfl⟩ | ⟨g, cap, cur, rfl, _⟩
  · exact ⟨none, 0, rfl⟩
  · exact ⟨_, cap, rfl⟩

theorem infoI : (Tryz.prog.info? 3).map (fun i => (i.zero, i.size, i.bytes)) = some (some (.int .i64 0), 1, 8) := by kernel_rfl

theorem cell_one_newE (w : World) (v : Value) (e : TypeId) : ∀ j u, ([v] : List Value)[j]? = some u → (w.alloc (.cells #[v] e)).cell? ((⟨w.heap.size, 0, none⟩ : Addr).add j) = some u := by
  intro j u h
  have hj : j = 0 := by
    have := (List.getElem?_eq_some_iff.1 h).1
    simp at this; omega
  subst hj
  simp at h
  subst h
  have := World.ownsRow_lit (base := 0) (size := 1) (e := e) w #[v] 1 (Nat.zero_le _) (by decide) rfl
  have := this.cellAt 0 (by omega)
  rw [show (⟨w.heap.size, 0, none⟩ : Addr).add 0 = ⟨w.heap.size, 0, none⟩ from rfl, this]
  rfl

theorem cell_two_newE (w : World) (x y : Value) (e : TypeId) : ∀ j u, ([x, y] : List Value)[j]? = some u → (w.alloc (.cells #[x, y] e)).cell? ((⟨w.heap.size, 0, none⟩ : Addr).add j) = some u := by
  intro j u h
  have hj : j < 2 := by simpa using (List.getElem?_eq_some_iff.1 h).1
  have := World.ownsRow_lit (base := 0) (size := 2) (e := e) w #[x, y] 1 (Nat.zero_le _) (by decide) rfl
  have := this.cellAt j (by omega)
  rw [show (⟨w.heap.size, 0, none⟩ : Addr).add j = ⟨w.heap.size, j, none⟩ from by rcases (by omega : j = 0 ∨ j = 1) with rfl | rfl <;> rfl, this]
  exact h

def errV (c : Int) : Value := if c = 0 then .nilIface else .iface 48 (.int .i64 c)
end Go.Proofs.YteaanpdckkmjoaaGreatDoor

/- What words are: plain functions on bytes, and what is true of them. Conditions: none. -/
import Derived.WalkKit
import Derived.Lib.Strings
import Derived.Lib.IndexBytes
namespace Go.Proofs.YtaomljdbndajgaaGreatDoor

/-- a byte, as a number -/
def bt (s : ByteArray) (k : Nat) : Int := ((s.data.toList.getD k 0).toNat : Int)
def isLet (c : Int) : Bool := decide (97 ≤ c ∧ c ≤ 122)
def isDig (c : Int) : Bool := decide (48 ≤ c ∧ c ≤ 57)
def isSgn (c : Int) : Bool := c == 40 || c == 41 || c == 44 || c == 42 || c == 43 || c == 45 || c == 60 || c == 62 || c == 61
/-- the two bytes at a place: one of the longer signs? -/
def isTwo (a b : Int) : Bool := (a == 60 && b == 61) || (a == 62 && b == 61) || (a == 60 && b == 62)

/-- how many bytes from a place on belong together: the greatest n with all of them so -/
def runN (p : Int → Bool) (s : ByteArray) : Nat → Nat → Nat
  | 0, _ => 0
  | f + 1, at_ => if at_ < s.size ∧ p (bt s at_) = true then runN p s f (at_ + 1) + 1 else 0
def run (p : Int → Bool) (s : ByteArray) (at_ : Nat) : Nat := runN p s (s.size - at_) at_

theorem runN_le (p : Int → Bool) (s : ByteArray) : ∀ f a, runN p s f a ≤ f
  | 0, _ => Nat.le_refl _
  | f + 1, a => by
    unfold runN
    have := runN_le p s f (a + 1)
    split <;> omega

theorem run_le (p : Int → Bool) (s : ByteArray) (a : Nat) : run p s a ≤ s.size - a := runN_le p s _ _

/-- all of the bytes from a to n belong together, and the one at n does not, or there is none: then that is the run -/
theorem runN_of (p : Int → Bool) (s : ByteArray) : ∀ f a n, s.size - a ≤ f → a ≤ n → n ≤ s.size → (∀ j, a ≤ j → j < n → p (bt s j) = true) → (n = s.size ∨ p (bt s n) = false) → runN p s f a = n - a
  | 0, a, n, hf, h1, h2, _, _ => by unfold runN; omega
  | f + 1, a, n, hf, h1, h2, h3, h4 => by
    unfold runN
    by_cases h : a = n
    · subst h
      rw [if_neg]
      · omega
      · rintro ⟨q1, q2⟩
        rcases h4 with h4 | h4
        · omega
        · rw [h4] at q2; cases q2
    · rw [if_pos ⟨by omega, h3 a (Nat.le_refl _) (by omega)⟩, runN_of p s f (a + 1) n (by omega) (by omega) h2 (fun j q1 q2 => h3 j (by omega) q2) h4]
      omega

theorem run_of (p : Int → Bool) (s : ByteArray) (a n : Nat) (h1 : a ≤ n) (h2 : n ≤ s.size) (h3 : ∀ j, a ≤ j → j < n → p (bt s j) = true) (h4 : n = s.size ∨ p (bt s n) = false) : run p s a = n - a :=
  runN_of p s _ a n (Nat.le_refl _) h1 h2 h3 h4

/-- the length of the word at a place; 0: none begins there -/
def wl (s : ByteArray) (a : Nat) : Nat :=
  if isLet (bt s a) then run isLet s a else if isDig (bt s a) then run isDig s a else
  if a + 1 < s.size ∧ isTwo (bt s a) (bt s (a + 1)) = true then 2 else if isSgn (bt s a) then 1 else 0

theorem wl_le (s : ByteArray) (a : Nat) (h : a < s.size) : a + wl s a ≤ s.size := by
  unfold wl
  split
  · have := run_le isLet s a; omega
  · split
    · have := run_le isDig s a; omega
    · split
      · omega
      · split <;> omega

/-- the words from a place on, behind words that are there: an error's number, and the words -/
def lexF (s : ByteArray) : Nat → Nat → List ByteArray → Int × List ByteArray
  | 0, _, ws => (0, ws)
  | f + 1, a, ws =>
    if a < s.size then
      if bt s a = 32 then lexF s f (a + 1) ws else
      if wl s a = 0 then (4, []) else if ws.length = 80 then (2, []) else lexF s f (a + wl s a) (ws ++ [s.extract a (a + wl s a)])
    else (0, ws)

/-- what is left to be read comes to T -/
def Left_ (s : ByteArray) (a : Nat) (ws : List ByteArray) (T : Int × List ByteArray) : Prop := ∃ f, s.size - a ≤ f ∧ lexF s f a ws = T
/-- what Words says: T -/
def lexT (s : ByteArray) : Int × List ByteArray := if s.size ≤ 240 then lexF s s.size 0 [] else (2, [])

theorem left_start (s : ByteArray) (h : s.size ≤ 240) : Left_ s 0 [] (lexT s) := ⟨s.size, by omega, by unfold lexT; rw [if_pos h]⟩
theorem left_end {s : ByteArray} {a : Nat} {ws : List ByteArray} {T : Int × List ByteArray} (h : Left_ s a ws T) (ha : s.size ≤ a) : T = (0, ws) := by
  obtain ⟨f, hf, rfl⟩ := h
  cases f with
  | zero => rfl
  | succ f => unfold lexF; rw [if_neg (by omega)]
theorem left_blank {s : ByteArray} {a : Nat} {ws : List ByteArray} {T : Int × List ByteArray} (h : Left_ s a ws T) (ha : a < s.size) (hb : bt s a = 32) : Left_ s (a + 1) ws T := by
  obtain ⟨f, hf, rfl⟩ := h
  cases f with
  | zero => omega
  | succ f => exact ⟨f, by omega, by conv => rhs; unfold lexF; rw [if_pos ha, if_pos hb]⟩
theorem left_none {s : ByteArray} {a : Nat} {ws : List ByteArray} {T : Int × List ByteArray} (h : Left_ s a ws T) (ha : a < s.size) (hb : bt s a ≠ 32) (hw : wl s a = 0) : T = (4, []) := by
  obtain ⟨f, hf, rfl⟩ := h
  cases f with
  | zero => omega
  | succ f => unfold lexF; rw [if_pos ha, if_neg hb, if_pos hw]
theorem left_many {s : ByteArray} {a : Nat} {ws : List ByteArray} {T : Int × List ByteArray} (h : Left_ s a ws T) (ha : a < s.size) (hb : bt s a ≠ 32) (hw : wl s a ≠ 0) (hn : ws.length = 80) : T = (2, []) := by
  obtain ⟨f, hf, rfl⟩ := h
  cases f with
  | zero => omega
  | succ f => unfold lexF; rw [if_pos ha, if_neg hb, if_neg hw, if_pos hn]
theorem left_word {s : ByteArray} {a : Nat} {ws : List ByteArray} {T : Int × List ByteArray} (h : Left_ s a ws T) (ha : a < s.size) (hb : bt s a ≠ 32) (hw : wl s a ≠ 0) (hn : ws.length ≠ 80) :
    Left_ s (a + wl s a) (ws ++ [s.extract a (a + wl s a)]) T := by
  obtain ⟨f, hf, rfl⟩ := h
  cases f with
  | zero => omega
  | succ f => exact ⟨f, by omega, by conv => rhs; unfold lexF; rw [if_pos ha, if_neg hb, if_neg hw, if_neg hn]⟩
end Go.Proofs.YtaomljdbndajgaaGreatDoor

/- The law LexerSays, proved for every text: it returns true and changes nothing that was there. Conditions: a text has fewer than 2^63 bytes. -/
import Derived.Test.YticgfdcgobdlmaaLex4
import Derived.Test.YticgfdcgobdlmaaLex5
namespace Go.Proofs.Yticgfdcgobdlmaa
open Go.RowKit
set_option linter.unusedVariables false
set_option linter.unusedSimpArgs false

theorem wordsOf_long (s : ByteArray) (w : World) (h : 240 < s.size) : Calls Try.prog 12 #[.string s] w fun e w' => ∃ v, e = .returned (.tuple #[v, .int .i64 (lexT s).1]) ∧ w'.ownsRow w.heap.size 9 1 v (lexT s).2.length ((lexT s).2.map Value.string) ∧ Below w.heap.size w w' := by
  have e : lexT s = (2, []) := by unfold lexT; rw [if_neg (by omega)]
  rw [e]
  go_enter Try.func12, Try.ntmps12
  go_wp2
  go_ret2
  exact ⟨_, rfl, World.ownsRow_nil _ _ _ _, Below.refl _ _⟩

theorem wordsOf_any (s : ByteArray) (w : World) : Calls Try.prog 12 #[.string s] w fun e w' => ∃ v, e = .returned (.tuple #[v, .int .i64 (lexT s).1]) ∧ w'.ownsRow w.heap.size 9 1 v (lexT s).2.length ((lexT s).2.map Value.string) ∧ Below w.heap.size w w' := by
  by_cases h : s.size ≤ 240
  · exact wordsOf_short s w h
  · exact wordsOf_long s w (by omega)

theorem words_row (s : ByteArray) (w : World) : Calls Try.prog 11 #[.string s] w fun e w' => ∃ v, e = .returned (.tuple #[v, errV (lexT s).1]) ∧ RowS w' v (lexT s).2 ∧ Below w.heap.size w w' :=
  (words_any s w).mono fun e w' ⟨v, h1, h2, h3⟩ => ⟨v, h1, rowS_of_owns h2, h3⟩
theorem wordsOf_row (s : ByteArray) (w : World) : Calls Try.prog 12 #[.string s] w fun e w' => ∃ v, e = .returned (.tuple #[v, .int .i64 (lexT s).1]) ∧ RowS w' v (lexT s).2 ∧ Below w.heap.size w w' :=
  (wordsOf_any s w).mono fun e w' ⟨v, h1, h2, h3⟩ => ⟨v, h1, rowS_of_owns h2, h3⟩

theorem lexer_walk (s : ByteArray) (w : World) (hs : s.size ≤ maxLen) : Calls Try.prog 3 #[.string s] w fun e w' => e = .returned (.bool true) ∧ Below w.heap.size w w' := by
  unfold maxLen at hs
  by_cases h : 400 < s.size
  · have h4 : (400 : Int) < (s.size : Int) := by omega
    go_enter Try.func3, Try.ntmps3
    go_wp2_with (go_at_call 10; refine (words_closed _).mono ?_; rintro e w1 ⟨rfl, hb⟩; have HB := hid2 hb; clear hb)
    go_ret
    exact ⟨rfl, HB.out⟩
  · have h4 : decide ((400 : Int) < (s.size : Int)) = false := by simp; omega
    have ht := lexT_pos s
    have HP := hid2 ht
    clear ht
    go_enter Try.func3, Try.ntmps3
    go_wp2_with (go_at_call 10; refine (words_closed _).mono ?_; rintro e w1 ⟨rfl, hb⟩; have HB := hid2 hb; clear hb)
    refine (words_row s _).mono ?_
    rintro e w2 ⟨v, rfl, r1, b1⟩
    have R1 := hid2 r1
    have B1 := hid2 b1
    clear r1 b1
    go_wp2_with fail
    refine (wordsOf_row s _).mono ?_
    rintro e w3 ⟨u, rfl, r2, b2⟩
    have R2 := hid2 r2
    have R1 := hid2 (rowS_below R1.out b2)
    have B2 := hid2 ((HB.out.trans (B1.out.mono HB.out.size)).trans (b2.mono (Nat.le_trans HB.out.size B1.out.size)))
    clear r2 b2
    generalize lexT s = T at *
    have tt : (T.1 == T.1) = true := by simp
    go_wp2_with (first | (go_at_call 13; refine (same_errV _ _ _ HP.out).mono ?_; rintro e w' ⟨rfl, rfl⟩) | (go_at_call 14; refine (texts_same _ _ _ _ R1.out R2.out).mono ?_; rintro e w4 ⟨rfl, hb⟩; have HC := hid2 hb; clear hb))
    go_ret
    exact ⟨rfl, B2.out.trans (HC.out.mono B2.out.size)⟩
end Go.Proofs.Yticgfdcgobdlmaa

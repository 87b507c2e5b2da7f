/- The texts of values by both sides, one and the same. Conditions: a value that may be; the library's tables; what penstockref.Decimal answers (given as a premise here). -/
import Derived.Test.YticgfdcgobdlmaaDoorSaysG
namespace Go.Proofs.YticgfdcgobdlmaaDoor
open Go.RowKit
set_option linter.unusedVariables false
set_option linter.unusedSimpArgs false
attribute [local go_sem ↓] eql_value neq_value

/-- a value's text -/
def textS (k n : Int) : ByteArray := if k = 1 then ⟨(Lib.itoa n).toArray⟩ else if k = 0 then ⟨#[110, 117, 108, 108]⟩ else if n = 1 then ⟨#[116, 114, 117, 101]⟩ else ⟨#[102, 97, 108, 115, 101]⟩

theorem text_g (k n : Int) (w : World) (h : vok k n = true) (ht : Tabs w) :
    Calls Tryd.prog 27 #[.agg #[.int .i64 k, .int .i64 n]] w fun e w' => e = .returned (.string (textS k n)) ∧ Below w.heap.size w w' := by
  rcases of_decide_eq_true h with ⟨rfl, rfl⟩ | ⟨rfl, h1, h2⟩ | ⟨rfl, rfl | rfl⟩
  · exact text_N w
  · exact text_num n w (by omega) (by omega) ht
  · exact text_F w
  · exact text_T w

/-- what Decimal answers -/
def DecOk : Prop := ∀ (n : Int) (w : World), -1000000000 ≤ n → n ≤ 1000000000 → Calls Tryd.prog 35 #[.int .i64 n] w fun e w' => e = .returned (.string ⟨(Lib.itoa n).toArray⟩) ∧ Below w.heap.size w w'

theorem rtext_g (hd : DecOk) (k n : Int) (w : World) (h : vok k n = true) :
    Calls Tryd.prog 28 #[.agg #[.int .i64 k, .int .i64 n]] w fun e w' => e = .returned (.string (textS k n)) ∧ Below w.heap.size w w' := by
  rcases of_decide_eq_true h with ⟨rfl, rfl⟩ | ⟨rfl, h1, h2⟩ | ⟨rfl, rfl | rfl⟩
  · go_enter Tryd.func28, Tryd.ntmps28
    go_wp2_with fail
    go_ret
    exact ⟨rfl, (Below.refl _ _).alloc (Nat.le_refl _) _⟩
  · have HD := hidT (hd n (w.alloc (.cells #[.int .i64 1, .int .i64 n] 32)) h1 h2)
    go_enter Tryd.func28, Tryd.ntmps28
    go_wp2_with (go_at_call 35; refine HD.out.mono ?_; rintro e w1 ⟨rfl, hb⟩; have HB := hidT hb; clear hb)
    go_ret
    exact ⟨rfl, ((Below.refl _ _).alloc (Nat.le_refl _) _).trans (HB.out.mono (by simp))⟩
  · go_enter Tryd.func28, Tryd.ntmps28
    go_wp2_with fail
    go_ret
    exact ⟨rfl, (Below.refl _ _).alloc (Nat.le_refl _) _⟩
  · go_enter Tryd.func28, Tryd.ntmps28
    go_wp2_with fail
    go_ret
    exact ⟨rfl, (Below.refl _ _).alloc (Nat.le_refl _) _⟩

theorem compare_c (k1 n1 k2 n2 c : Int) (w : World) (h : vcmp k1 n1 k2 n2 = c) :
    Calls Tryd.prog 20 #[.agg #[.int .i64 k1, .int .i64 n1], .agg #[.int .i64 k2, .int .i64 n2]] w fun e w' => e = .returned (.int .i64 c) ∧ Below w.heap.size w w' := by
  rw [← h]
  exact compare_any k1 n1 k2 n2 w
end Go.Proofs.YticgfdcgobdlmaaDoor

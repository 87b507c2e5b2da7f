/- What penstockref.Decimal answers: a number's decimal text. Conditions: a number from -1000000000 to 1000000000. -/
import Derived.Test.YticgfdcgobdlmaaDoorRefBig
import Derived.Test.YticgfdcgobdlmaaDoorRefTx
import Derived.Test.YticgfdcgobdlmaaDoorTopV
namespace Go.Proofs.YticgfdcgobdlmaaDoor
open Go.RowKit
set_option linter.unusedVariables false
set_option linter.unusedSimpArgs false

theorem app_one (l : List UInt8) (c : UInt8) : (⟨l.toArray⟩ : ByteArray) ++ ⟨#[c]⟩ = ⟨(l ++ [c]).toArray⟩ := by
  apply ByteArray.ext
  rw [ByteArray.data_append]
  simp

theorem app_cons (l : List UInt8) (c : UInt8) : (⟨#[c]⟩ : ByteArray) ++ ⟨l.toArray⟩ = ⟨(c :: l).toArray⟩ := by
  apply ByteArray.ext
  rw [ByteArray.data_append]
  simp

theorem dec_nat (u : Nat) : u ≤ 1000000000 → ∀ w, Calls Tryd.prog 35 #[.int .i64 (u : Int)] w fun e w' => e = .returned (.string ⟨(Lib.decDigits u).toArray⟩) ∧ Below w.heap.size w w' := by
  induction u using Nat.strongRecOn with
  | _ u ih =>
    intro h w
    by_cases hs : u < 10
    · have := dec_small (u : Int) w (by omega) (by omega)
      rw [decDigits_small u hs]
      have e : (48 + (u : Int)).toNat = 48 + u := by omega
      rw [e] at this
      exact this
    · have := dec_big (u : Int) ((u / 10 : Nat) : Int) ((u % 10 : Nat) : Int) (Lib.decDigits (u / 10)) w (by omega) (by omega) rfl rfl (by omega) (by omega) (by omega) (by omega)
        (by have := digs_len (u / 10) (by omega); omega) (fun w => ih (u / 10) (by omega) (by omega) w)
      rw [decDigits_big u (by omega)]
      have e : (48 + ((u % 10 : Nat) : Int)).toNat = 48 + u % 10 := by omega
      rw [e, app_one] at this
      exact this

theorem decOk : DecOk := by
  intro n w h0 h1
  unfold Lib.itoa
  by_cases hn : n < 0
  · rw [if_pos hn]
    have hm : -n = ((n.natAbs : Nat) : Int) := by omega
    have := dec_neg n (Lib.decDigits n.natAbs) w hn h0 (by have := digs_len n.natAbs (by omega); omega) (fun w => by rw [hm]; exact dec_nat n.natAbs (by omega) w)
    rw [app_cons] at this
    exact this
  · rw [if_neg hn]
    have hm : n = ((n.toNat : Nat) : Int) := by omega
    have := dec_nat n.toNat (by omega) w
    rw [← hm] at this
    exact this
end Go.Proofs.YticgfdcgobdlmaaDoor

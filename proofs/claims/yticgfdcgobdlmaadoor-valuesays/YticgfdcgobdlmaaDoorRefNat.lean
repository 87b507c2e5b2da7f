/- The contracts of penstockref.natural and ValueOf, over this seat's translation. Conditions: a text of at most 50 bytes. -/
import Derived.Test.YticgfdcgobdlmaaDoorRefVals
import Derived.Test.YticgfdcgobdlmaaDoorNatPure
import Derived.Test.YticgfdcgobdlmaaDoorParseBad
namespace Go.Proofs.YticgfdcgobdlmaaDoor
open Go.RowKit
set_option linter.unusedVariables false
set_option linter.unusedSimpArgs false
attribute [local go_sem ↓] eql_value neq_value

theorem bt_get (s : ByteArray) (k : Nat) (h : k < s.size) : (s[k].toNat : Int) = ((s.data.toList.getD k 0).toNat : Int) := by
  have h2 : k < s.data.toList.length := by simpa using h
  simp only [List.getD, List.getElem?_eq_getElem h2, Option.getD_some]
  rfl

theorem drop_at (s : ByteArray) (k : Nat) (h : k < s.size) : s.data.toList.drop k = s.data.toList.getD k 0 :: s.data.toList.drop (k + 1) := by
  have h2 : k < s.data.toList.length := by simpa using h
  rw [List.drop_eq_getElem_cons h2]
  simp only [List.getD, List.getElem?_eq_getElem h2, Option.getD_some]

/-- what the loop has still to read -/
def Rest (s : ByteArray) (k a : Nat) (r : Option Nat) : Prop := natL a (s.data.toList.drop k) = r

theorem rest_end {s : ByteArray} {k a : Nat} {r : Option Nat} (h : Rest s k a r) (hk : k = s.size) : r = some a := by
  unfold Rest at h
  rw [List.drop_eq_nil_of_le (by simp [hk])] at h
  exact h.symm

theorem rest_bad {s : ByteArray} {k a : Nat} {r : Option Nat} (h : Rest s k a r) (hk : k < s.size) (hb : (s[k].toNat : Int) < 48 ∨ 57 < (s[k].toNat : Int)) : r = none := by
  unfold Rest at h
  rw [drop_at s k hk, natL, if_pos (by have := bt_get s k hk; omega)] at h
  exact h.symm

theorem rest_big {s : ByteArray} {k a : Nat} {r : Option Nat} (h : Rest s k a r) (hk : k < s.size) (h1 : 48 ≤ (s[k].toNat : Int)) (h2 : (s[k].toNat : Int) ≤ 57) (hb : 1000000000 < 10 * (a : Int) + ((s[k].toNat : Int) - 48)) : r = none := by
  unfold Rest at h
  have hg := bt_get s k hk
  rw [drop_at s k hk, natL, if_neg (by omega), if_pos (by omega)] at h
  exact h.symm

theorem rest_next {s : ByteArray} {k a : Nat} {r : Option Nat} (h : Rest s k a r) (hk : k < s.size) (h1 : 48 ≤ (s[k].toNat : Int)) (h2 : (s[k].toNat : Int) ≤ 57) (hb : 10 * (a : Int) + ((s[k].toNat : Int) - 48) ≤ 1000000000) : ∃ b : Nat, (b : Int) = 10 * (a : Int) + ((s[k].toNat : Int) - 48) ∧ b ≤ 1000000000 ∧ Rest s (k + 1) b r := by
  unfold Rest at h ⊢
  have hg := bt_get s k hk
  rw [drop_at s k hk, natL, if_neg (by omega), if_neg (by omega)] at h
  exact ⟨_, by omega, by omega, h⟩

set_option maxRecDepth 100000 in
theorem natural_any (s : ByteArray) (w : World) (hs : s.size ≤ 50) :
    Calls Tryd.prog 31 #[.string s, .int .i64 1000000000, .bool true] w fun e w' => e = .returned (.int .i64 (natR s.data.toList)) ∧ w' = w := by
  have hlen : s.data.toList.length = s.size := by simp
  by_cases h1 : s.size < 1
  · have e : natR s.data.toList = -1 := by unfold natR; rw [if_pos (Or.inl (by omega))]
    rw [e]; clear e
    have h1i : (s.size : Int) < 1 := by omega
    go_enter Tryd.func31, Tryd.ntmps31
    go_wp2_with fail
    go_ret
    exact ⟨rfl, rfl⟩
  · have h0 : 0 < s.size := by omega
    by_cases h2 : (s.data.toList.getD 0 0).toNat = 48 ∧ 1 < s.size
    · have e : natR s.data.toList = -1 := by unfold natR; rw [if_pos (Or.inr ⟨h2.1, by omega⟩)]
      rw [e]; clear e
      have hb : ((s[0].toNat : Int) == 48) = true := by rw [bt_get s 0 h0, h2.1]; rfl
      have h3 : (1 : Int) < (s.size : Int) := by omega
      clear h2
      go_enter Tryd.func31, Tryd.ntmps31
      go_wp2_with fail
      go_ret
      exact ⟨rfl, rfl⟩
    · have e : natR s.data.toList = match natL 0 s.data.toList with | some n => (n : Int) | none => -1 := by
        unfold natR
        rw [if_neg (by omega)]
        rfl
      rw [e]; clear e
      have hr : Rest s 0 0 (natL 0 s.data.toList) := by unfold Rest; simp
      generalize natL 0 s.data.toList = r at hr
      have HR := hidT hr
      clear hr
      have key : ∀ {P : Prop}, (((s[0].toNat : Int) == 48) = false → P) → (((s[0].toNat : Int) == 48) = true → ¬ (1 : Int) < (s.size : Int) → P) → P := by
        intro P ha hb
        cases hq : ((s[0].toNat : Int) == 48)
        · exact ha hq
        · refine hb hq ?_
          intro h3
          apply h2
          refine ⟨?_, by omega⟩
          have := bt_get s 0 h0
          have hq' : (s[0].toNat : Int) = 48 := by simpa using hq
          omega
      clear h2 h1
      have tail : True := trivial
      apply key
      all_goals
        clear key
        intros
        go_enter Tryd.func31, Tryd.ntmps31
        go_wp2_with fail
        go_loopw [7, 8] (fun nv iv wr => ∃ k a : Nat, k ≤ s.size ∧ a ≤ 1000000000 ∧ nv = .int .i64 a ∧ iv = .int .i64 k ∧ wr = w ∧ Hid (Rest s k a r)) (fun _ iv _ => s.size - (intOf iv).toNat)
        case atStart => exact ⟨0, 0, Nat.zero_le _, Nat.zero_le _, rfl, rfl, rfl, HR⟩
        case round =>
          clear HR
          obtain ⟨k, a, hk, ha, rfl, rfl, rfl, HR⟩ := hrel
          by_cases hlt : k < s.size
          · by_cases c1 : (s[k].toNat : Int) < 48
            · obtain rfl := rest_bad HR.out hlt (Or.inl c1)
              go_wp2_with fail
              go_ret
              exact ⟨rfl, rfl⟩
            · by_cases c2 : 57 < (s[k].toNat : Int)
              · obtain rfl := rest_bad HR.out hlt (Or.inr c2)
                go_wp2_with fail
                go_ret
                exact ⟨rfl, rfl⟩
              · by_cases c3 : 1000000000 < 10 * (a : Int) + ((s[k].toNat : Int) - 48)
                · obtain rfl := rest_big HR.out hlt (by omega) (by omega) c3
                  go_wp2_with fail
                  go_ret
                  exact ⟨rfl, rfl⟩
                · obtain ⟨b, hb, hb2, HN⟩ := rest_next HR.out hlt (by omega) (by omega) (by omega)
                  have HN := hidT HN
                  clear HR
                  go_wp2_with fail
                  go_roundw
                  case rel => exact ⟨k + 1, b, by omega, hb2, by rw [hb], by go_num, by trivial, HN⟩
                  case measure => simp [intOf]; omega
          · obtain rfl := rest_end HR.out (by omega)
            go_wp2_with fail
            go_ret
            exact ⟨rfl, rfl⟩
end Go.Proofs.YticgfdcgobdlmaaDoor

/- The law TopWords, proved for every text and number: it returns true and changes nothing that was there. Conditions: a text has fewer than 2^63 bytes. -/
import Derived.Test.YticgfdcgobdlmaaLexPure2
import Derived.Test.YticgfdcgobdlmaaLex5
namespace Go.Proofs.Yticgfdcgobdlmaa
open Go.RowKit
set_option linter.unusedVariables false
set_option linter.unusedSimpArgs false

theorem words_row (s : ByteArray) (w : World) : Calls Try.prog 11 #[.string s] w fun e w' => ∃ v, e = .returned (.tuple #[v, errV (lexT s).1]) ∧ RowS w' v (lexT s).2 ∧ Below w.heap.size w w' :=
  (words_any s w).mono fun e w' ⟨v, h1, h2, h3⟩ => ⟨v, h1, rowS_of_owns h2, h3⟩

theorem rowS_shape {w : World} {v : Value} {xs : List ByteArray} (h : RowS w v xs) : ∃ ao cap, v = .slice ao xs.length cap := by
  rcases h with ⟨rfl, rfl⟩ | ⟨g, off, cap, rfl, _⟩
  · exact ⟨none, 0, rfl⟩
  · exact ⟨_, _, rfl⟩

theorem lex_3 : lexT ⟨#[97, 60, 98]⟩ = (0, [⟨#[97]⟩, ⟨#[60]⟩, ⟨#[98]⟩]) := by decide +kernel
theorem words_3 (w : World) : Calls Try.prog 11 #[.string ⟨#[97, 60, 98]⟩] w fun e w' => ∃ ao cap, e = .returned (.tuple #[.slice ao 3 cap, .nilIface]) ∧ Below w.heap.size w w' := by
  have h := words_row ⟨#[97, 60, 98]⟩ w
  rw [lex_3] at h
  refine h.mono fun e w' ⟨v, h1, h2, h3⟩ => ?_
  obtain ⟨ao, cap, rfl⟩ := rowS_shape h2
  exact ⟨ao, cap, h1, h3⟩

theorem cat_size (a b : ByteArray) : (a ++ b).size = a.size + b.size := ByteArray.size_append
theorem cat_list (a b : ByteArray) : (a ++ b).data.toList = a.data.toList ++ b.data.toList := by simp

/-- 'n & 15' is at most 15 -/
theorem and_15 (n : Int) : bits .and .i64 n 15 ≤ 15 := by
  show IntKind.i64.wrap ((BitVec.ofInt 64 n &&& BitVec.ofInt 64 15).toNat : Int) ≤ 15
  have h2 : (BitVec.ofInt 64 15).toNat = 15 := by decide
  have h : (BitVec.ofInt 64 n).toNat &&& 15 ≤ 15 := Nat.and_le_right
  rw [BitVec.toNat_and, h2, IntKind.wrap_i64]
  omega

theorem errV_zero : errV 0 = .nilIface := rfl

theorem topWords_walk (s : ByteArray) (n : Int) (w : World) (hs : s.size ≤ maxLen) : Calls Try.prog 8 #[.string s, .int .i64 n] w fun e w' => e = .returned (.bool true) ∧ Below w.heap.size w w' := by
  unfold maxLen at hs
  go_enter Try.func8, Try.ntmps8
  go_wp2_with fail
  refine (words_3 _).mono ?_
  rintro e w1 ⟨ao, cap, rfl, hb⟩
  have HB := hid2 hb
  clear hb
  by_cases h : 100 < s.size
  · have h4 : (100 : Int) < (s.size : Int) := by omega
    go_wp2_with fail
    go_ret
    exact ⟨rfl, HB.out⟩
  · have h4 : ¬ ((100 : Int) < (s.size : Int)) := by omega
    go_wp2_with fail
    refine (words_row s _).mono ?_
    rintro e w2 ⟨v, rfl, r1, b1⟩
    obtain ⟨ao, cap, rfl⟩ := rowS_shape r1
    have R1 := hid2 r1
    have HB := hid2 (HB.out.trans (b1.mono HB.out.size))
    clear r1 b1
    by_cases he : (lexT s).1 = 0
    · rw [he]
      unfold errV
      rw [if_pos rfl]
      have HW := hid2 (lexT_wordy s)
      have HSm := hid2 (lexT_small s)
      have HF := hid2 (lexT_few s)
      have HA := hid2 (fun t j => lexT_again s t j)
      generalize (lexT s).2 = us at *
      clear he
      have hf : us.length ≤ 80 := HF.out
      go_wp2_with fail
      go_loop [7, 8] (fun t i => ∃ (k : Nat) (tb : ByteArray), k ≤ us.length ∧ i = .int .i64 k ∧ t = .string tb ∧ tb.size ≤ 101 * k ∧ Hid (tb.data.toList = joined (us.take k))) (fun _ i => us.length - (intOf i).toNat)
      case atStart => exact ⟨0, ⟨#[]⟩, Nat.zero_le _, rfl, rfl, by decide, rfl⟩
      case round =>
        obtain ⟨k, tb, hk, rfl, rfl, hts, HT⟩ := hrel
        by_cases hlt : k < us.length
        · rcases R1.out with ⟨e1, e2⟩ | ⟨g, off, cap', e1, l1, l2, l3, cc⟩
          · exact absurd hlt (by rw [e2]; simp)
          · simp only [Value.slice.injEq] at e1
            obtain ⟨rfl, -, rfl⟩ := e1
            have c := cc k hlt
            clear cc
            generalize hx : us.getD k ⟨#[]⟩ = x at c
            have HX := hid2 hx
            clear hx
            have hmem : us.getD k ⟨#[]⟩ ∈ us := by simp [List.getD, hlt]
            have hne : x.toList.isEmpty = false := by
              have := (HW.out _ hmem).1
              rw [HX.out] at this
              rw [Lib.toList_data]
              simpa using this
            have hxs : x.size ≤ 100 := by
              have := HSm.out _ hmem
              rw [HX.out] at this
              omega
            clear hmem
            go_wp2_with fail
            go_round
            case rel => exact ⟨k + 1, _, by omega, by go_num, rfl, by rw [cat_size, cat_size]; show tb.size + x.size + 1 ≤ _; omega, by
              show _ = _
              rw [cat_list, cat_list, HT.out, joined_take us k hlt, HX.out, List.append_assoc]⟩
            case measure => simp [intOf]; omega
        · have hkn : k = us.length := by omega
          have HT : Hid (tb.data.toList = joined us) := by
            have := HT.out
            rw [hkn, List.take_length] at this
            exact this
          have hts2 : tb.size ≤ 8080 := by omega
          have hge : ¬ ((k : Int) < (us.length : Int)) := by omega
          clear hkn hts
          go_wp2_with fail
          go_loop [7, 9] (fun t i => ∃ (j : Nat) (tb : ByteArray), j ≤ 15 ∧ i = .int .i64 j ∧ t = .string tb ∧ tb.size ≤ 8080 + j ∧ Hid (tb.data.toList = List.replicate j 32 ++ joined us)) (fun _ i => 15 - (intOf i).toNat)
          case atStart => exact ⟨0, tb, Nat.zero_le _, rfl, rfl, by omega, HT⟩
          case round =>
            clear HT hts2
            obtain ⟨j, tb, hj, rfl, rfl, hts, HT⟩ := hrel
            have ha := and_15 n
            have HA15 := hid2 ha
            clear ha
            go_wp2_with fail
            · go_round
              case rel => exact ⟨j + 1, _, by have := HA15.out; omega, by go_num, rfl, by rw [cat_size]; show 1 + tb.size ≤ _; omega, by
                show _ = _
                rw [cat_list, HT.out, List.replicate_succ]; rfl⟩
              case measure => have := HA15.out; simp [intOf]; omega
            · go_ret
              exact ⟨rfl, HB.out⟩
            · have ht : tb.size ≤ 240 := by omega
              have e := HA.out tb j ht HT.out
              have hrow := words_row tb w2
              rw [e] at hrow
              refine hrow.mono ?_
              rw [errV_zero]
              rintro e w3 ⟨v, rfl, r2, b2⟩
              have R2 : Hid (RowS w3 v us) := r2
              have R1 := hid2 (rowS_below R1.out b2)
              have HB := hid2 (HB.out.trans (b2.mono HB.out.size))
              clear r2 b2 e hrow
              go_wp2_with (go_at_call 14; refine (texts_same _ _ _ _ R1.out R2.out).mono ?_; rintro e w4 ⟨rfl, hb⟩; have HC := hid2 hb; clear hb)
              go_ret
              exact ⟨rfl, HB.out.trans (HC.out.mono HB.out.size)⟩
    · have hx : (lexT s).2 = [] := lexT_err s he
      rw [hx]
      have hne : errV (lexT s).1 = .iface 69 (.int .i64 (lexT s).1) := by unfold errV; rw [if_neg he]
      rw [hne]
      generalize (lexT s).1 = c at *
      clear hne hx he R1
      go_wp2_with fail
      go_ret
      exact ⟨rfl, HB.out⟩
end Go.Proofs.Yticgfdcgobdlmaa

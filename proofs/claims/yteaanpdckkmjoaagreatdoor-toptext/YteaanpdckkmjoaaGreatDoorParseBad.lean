/- The contract of value.Parse, the texts that are none: nothing, and the error of texts. Conditions: as for the texts of values; a text of at most 2^48 bytes. -/
import Derived.Test.YteaanpdckkmjoaaGreatDoorParseV
namespace Go.Proofs.YteaanpdckkmjoaaGreatDoor
open Go.RowKit
set_option linter.unusedVariables false
set_option linter.unusedSimpArgs false
attribute [local go_sem ↓] eql_value neq_value

/-- the text of a number, or of nothing where it is too great -/
def numL (v : Int) : List UInt8 := if -1000000000 ≤ v ∧ v ≤ 1000000000 then Lib.itoa v else [110, 117, 108, 108]

theorem text_numV (v : Int) (w : World) (ht : Tabs w) :
    Calls Tryz.prog 91 #[.agg #[.int .i64 (numK v), .int .i64 (numN v)]] w fun e w' => e = .returned (.string ⟨(numL v).toArray⟩) ∧ Below w.heap.size w w' := by
  unfold numK numN numL
  by_cases h : -1000000000 ≤ v ∧ v ≤ 1000000000
  · rw [if_pos h, if_pos h, if_pos h]
    exact text_num v w (by omega) (by omega) ht
  · rw [if_neg h, if_neg h, if_neg h]
    exact text_N w

set_option maxRecDepth 100000 in
theorem parse_no (s : ByteArray) (w : World) (ht : Tabs w) (tN : (s.toList == [110, 117, 108, 108]) = false) (tF : (s.toList == [102, 97, 108, 115, 101]) = false) (tT : (s.toList == [116, 114, 117, 101]) = false) (hs : s.size ≤ 281474976710656) (hv : ∀ n, Lib.atoiAll s.data.toList ≠ .ok n) :
    Calls Tryz.prog 142 #[.string s] w fun e w' => e = .returned (.tuple #[.agg #[.int .i64 0, .int .i64 0], .iface 48 (.int .i64 4)]) ∧ Below w.heap.size w w' := by
  have HT0 : Hid (Tabs w) := ht
  clear ht
  have HV := hidT hv
  clear hv
  have i0 : ∀ w, (Instr.index 174 (.agg #[.int .i64 0, .int .i64 0, .int .i64 2, .int .i64 0, .int .i64 2, .int .i64 1]) (.int .i64 0)).run Tryz.prog w = .ok (.agg #[.int .i64 0, .int .i64 0]) w := fun _ => by kernel_rfl
  have i1 : ∀ w, (Instr.index 174 (.agg #[.int .i64 0, .int .i64 0, .int .i64 2, .int .i64 0, .int .i64 2, .int .i64 1]) (.int .i64 1)).run Tryz.prog w = .ok (.agg #[.int .i64 2, .int .i64 0]) w := fun _ => by kernel_rfl
  have i2 : ∀ w, (Instr.index 174 (.agg #[.int .i64 0, .int .i64 0, .int .i64 2, .int .i64 0, .int .i64 2, .int .i64 1]) (.int .i64 2)).run Tryz.prog w = .ok (.agg #[.int .i64 2, .int .i64 1]) w := fun _ => by kernel_rfl
  have HB : Hid (Below ((((w.alloc (.cells #[.int .i64 0, .int .i64 0] 89)).alloc (.cells #[.int .i64 0, .int .i64 0] 89)).alloc (.cells #[.int .i64 2, .int .i64 0] 89)).alloc (.cells #[.int .i64 2, .int .i64 1] 89)).heap.size ((((w.alloc (.cells #[.int .i64 0, .int .i64 0] 89)).alloc (.cells #[.int .i64 0, .int .i64 0] 89)).alloc (.cells #[.int .i64 2, .int .i64 0] 89)).alloc (.cells #[.int .i64 2, .int .i64 1] 89)) ((((w.alloc (.cells #[.int .i64 0, .int .i64 0] 89)).alloc (.cells #[.int .i64 0, .int .i64 0] 89)).alloc (.cells #[.int .i64 2, .int .i64 0] 89)).alloc (.cells #[.int .i64 2, .int .i64 1] 89))) := Below.refl _ _
  go_enter Tryz.func142, Tryz.ntmps142
  go_wp2_with (first | (go_at_call 104; refine (null_any _).mono ?_; rintro e w' ⟨rfl, rfl⟩) | (go_at_call 108; refine (truth_any _ _).mono ?_; rintro e w' ⟨rfl, rfl⟩))
  go_loopw [13] (fun iv wr => ∃ j : Nat, j ≤ 3 ∧ iv = .int .i64 j ∧ Hid (Below ((((w.alloc (.cells #[.int .i64 0, .int .i64 0] 89)).alloc (.cells #[.int .i64 0, .int .i64 0] 89)).alloc (.cells #[.int .i64 2, .int .i64 0] 89)).alloc (.cells #[.int .i64 2, .int .i64 1] 89)).heap.size ((((w.alloc (.cells #[.int .i64 0, .int .i64 0] 89)).alloc (.cells #[.int .i64 0, .int .i64 0] 89)).alloc (.cells #[.int .i64 2, .int .i64 0] 89)).alloc (.cells #[.int .i64 2, .int .i64 1] 89)) wr)) (fun iv _ => 3 - (intOf iv).toNat)
  case atStart => exact ⟨0, by omega, rfl, HB⟩
  case round =>
    clear HB
    obtain ⟨j, hj, rfl, HB⟩ := hrel
    obtain ⟨hc, hf⟩ := rules HB
    have jj : j = 0 ∨ j = 1 ∨ j = 2 ∨ j = 3 := by omega
    clear hj
    rcases jj with rfl | rfl | rfl | rfl
    · go_wp2_with (go_at_call 91; refine (text_N _).mono ?_; rintro e w1 ⟨rfl, hb⟩; have HB := nxt2 HB hb; obtain ⟨hc, hf⟩ := rules HB; obtain ⟨ic, jf⟩ := bcell hb; clear hb)
      go_roundw
      case rel => exact ⟨1, by omega, rfl, HB⟩
      case measure => simp [intOf]
    · go_wp2_with (go_at_call 91; refine (text_F _).mono ?_; rintro e w1 ⟨rfl, hb⟩; have HB := nxt2 HB hb; obtain ⟨hc, hf⟩ := rules HB; obtain ⟨ic, jf⟩ := bcell hb; clear hb)
      go_roundw
      case rel => exact ⟨2, by omega, rfl, HB⟩
      case measure => simp [intOf]
    · go_wp2_with (go_at_call 91; refine (text_T _).mono ?_; rintro e w1 ⟨rfl, hb⟩; have HB := nxt2 HB hb; obtain ⟨hc, hf⟩ := rules HB; obtain ⟨ic, jf⟩ := bcell hb; clear hb)
      go_roundw
      case rel => exact ⟨3, by omega, rfl, HB⟩
      case measure => simp [intOf]
    · have HT := hidT (HT0.out.below ((w4_below _ _ _ _ _).trans (HB.out.mono (by simp only [World.size_alloc]; omega))))
      go_wp2_with fail
      refine (atoi_no s _ hs HV.out HT.out).mono ?_
      rintro e w3 ⟨v, ti, pv, rfl, ha⟩
      have HA := hidT ha
      clear ha
      have HT := hidT (HT.out.below HA.out)
      have HB := nxt HB HA.out
      obtain ⟨hc, hf⟩ := rules HB
      go_wp2_with fail
      refine (number_any _ _).mono ?_
      rintro e w4 ⟨rfl, hm⟩
      have HM := hidT hm
      clear hm
      have HT := hidT (HT.out.below HM.out)
      have HB := nxt HB HM.out
      obtain ⟨hc, hf⟩ := rules HB
      go_wp2_with (go_at_call 104; refine (null_b _).mono ?_; rintro e w6 ⟨rfl, hb⟩; have HB := nxt2 HB hb; obtain ⟨hc, hf⟩ := rules HB; clear hb)
      have y0 : w6.cell? ⟨w.heap.size, 0, none⟩ = some (.int .i64 0) := by rw [hc _ _ (by simp only [World.size_alloc]; omega)]; go_simp
      have y1 : w6.cell? ⟨w.heap.size, 1, none⟩ = some (.int .i64 0) := by rw [hc _ _ (by simp only [World.size_alloc]; omega)]; go_simp
      exact bodyPost_ret (v := .tuple #[.agg #[.int .i64 0, .int .i64 0], .iface 48 (.int .i64 4)]) (by simp [results, Tryz.results142, go_sem, y0, y1]) rfl ⟨rfl, ended HB (w4_below _ _ _ _ _) _ _⟩

set_option maxRecDepth 100000 in
theorem parse_else (s : ByteArray) (w : World) (ht : Tabs w) (tN : (s.toList == [110, 117, 108, 108]) = false) (tF : (s.toList == [102, 97, 108, 115, 101]) = false) (tT : (s.toList == [116, 114, 117, 101]) = false) (hs : s.size ≤ 281474976710656) (v : Int) (hv : Lib.atoiAll s.data.toList = .ok v) (he : s.data.toList ≠ numL v) :
    Calls Tryz.prog 142 #[.string s] w fun e w' => e = .returned (.tuple #[.agg #[.int .i64 0, .int .i64 0], .iface 48 (.int .i64 4)]) ∧ Below w.heap.size w w' := by
  have HT0 : Hid (Tabs w) := ht
  clear ht
  have HV := hidT hv
  clear hv
  obtain ⟨t, rfl⟩ : ∃ t : ByteArray, t = ⟨(numL v).toArray⟩ := ⟨_, rfl⟩
  have q2 : (s.toList == (⟨(numL v).toArray⟩ : ByteArray).toList) = false := by
    rw [Lib.toList_data, Lib.toList_data]
    apply beq_eq_false_iff_ne.2
    intro e
    exact he (by rw [e])
  have q3 : (s.toList == numL v) = false := by
    rw [Lib.toList_data]
    apply beq_eq_false_iff_ne.2
    exact he
  clear he
  have i0 : ∀ w, (Instr.index 174 (.agg #[.int .i64 0, .int .i64 0, .int .i64 2, .int .i64 0, .int .i64 2, .int .i64 1]) (.int .i64 0)).run Tryz.prog w = .ok (.agg #[.int .i64 0, .int .i64 0]) w := fun _ => by kernel_rfl
  have i1 : ∀ w, (Instr.index 174 (.agg #[.int .i64 0, .int .i64 0, .int .i64 2, .int .i64 0, .int .i64 2, .int .i64 1]) (.int .i64 1)).run Tryz.prog w = .ok (.agg #[.int .i64 2, .int .i64 0]) w := fun _ => by kernel_rfl
  have i2 : ∀ w, (Instr.index 174 (.agg #[.int .i64 0, .int .i64 0, .int .i64 2, .int .i64 0, .int .i64 2, .int .i64 1]) (.int .i64 2)).run Tryz.prog w = .ok (.agg #[.int .i64 2, .int .i64 1]) w := fun _ => by kernel_rfl
  have HB : Hid (Below ((((w.alloc (.cells #[.int .i64 0, .int .i64 0] 89)).alloc (.cells #[.int .i64 0, .int .i64 0] 89)).alloc (.cells #[.int .i64 2, .int .i64 0] 89)).alloc (.cells #[.int .i64 2, .int .i64 1] 89)).heap.size ((((w.alloc (.cells #[.int .i64 0, .int .i64 0] 89)).alloc (.cells #[.int .i64 0, .int .i64 0] 89)).alloc (.cells #[.int .i64 2, .int .i64 0] 89)).alloc (.cells #[.int .i64 2, .int .i64 1] 89)) ((((w.alloc (.cells #[.int .i64 0, .int .i64 0] 89)).alloc (.cells #[.int .i64 0, .int .i64 0] 89)).alloc (.cells #[.int .i64 2, .int .i64 0] 89)).alloc (.cells #[.int .i64 2, .int .i64 1] 89))) := Below.refl _ _
  go_enter Tryz.func142, Tryz.ntmps142
  go_wp2_with (first | (go_at_call 104; refine (null_any _).mono ?_; rintro e w' ⟨rfl, rfl⟩) | (go_at_call 108; refine (truth_any _ _).mono ?_; rintro e w' ⟨rfl, rfl⟩))
  go_loopw [13] (fun iv wr => ∃ j : Nat, j ≤ 3 ∧ iv = .int .i64 j ∧ Hid (Below ((((w.alloc (.cells #[.int .i64 0, .int .i64 0] 89)).alloc (.cells #[.int .i64 0, .int .i64 0] 89)).alloc (.cells #[.int .i64 2, .int .i64 0] 89)).alloc (.cells #[.int .i64 2, .int .i64 1] 89)).heap.size ((((w.alloc (.cells #[.int .i64 0, .int .i64 0] 89)).alloc (.cells #[.int .i64 0, .int .i64 0] 89)).alloc (.cells #[.int .i64 2, .int .i64 0] 89)).alloc (.cells #[.int .i64 2, .int .i64 1] 89)) wr)) (fun iv _ => 3 - (intOf iv).toNat)
  case atStart => exact ⟨0, by omega, rfl, HB⟩
  case round =>
    clear HB
    obtain ⟨j, hj, rfl, HB⟩ := hrel
    obtain ⟨hc, hf⟩ := rules HB
    have jj : j = 0 ∨ j = 1 ∨ j = 2 ∨ j = 3 := by omega
    clear hj
    rcases jj with rfl | rfl | rfl | rfl
    · go_wp2_with (go_at_call 91; refine (text_N _).mono ?_; rintro e w1 ⟨rfl, hb⟩; have HB := nxt2 HB hb; obtain ⟨hc, hf⟩ := rules HB; obtain ⟨ic, jf⟩ := bcell hb; clear hb)
      go_roundw
      case rel => exact ⟨1, by omega, rfl, HB⟩
      case measure => simp [intOf]
    · go_wp2_with (go_at_call 91; refine (text_F _).mono ?_; rintro e w1 ⟨rfl, hb⟩; have HB := nxt2 HB hb; obtain ⟨hc, hf⟩ := rules HB; obtain ⟨ic, jf⟩ := bcell hb; clear hb)
      go_roundw
      case rel => exact ⟨2, by omega, rfl, HB⟩
      case measure => simp [intOf]
    · go_wp2_with (go_at_call 91; refine (text_T _).mono ?_; rintro e w1 ⟨rfl, hb⟩; have HB := nxt2 HB hb; obtain ⟨hc, hf⟩ := rules HB; obtain ⟨ic, jf⟩ := bcell hb; clear hb)
      go_roundw
      case rel => exact ⟨3, by omega, rfl, HB⟩
      case measure => simp [intOf]
    · have HT := hidT (HT0.out.below ((w4_below _ _ _ _ _).trans (HB.out.mono (by simp only [World.size_alloc]; omega))))
      go_wp2_with fail
      refine (atoi_any s v _ (by omega) HV.out).mono ?_
      rintro e w3 ⟨rfl, ha⟩
      have HA := hidT ha
      clear ha
      have HT := hidT (HT.out.below HA.out)
      have HB := nxt HB HA.out
      obtain ⟨hc, hf⟩ := rules HB
      go_wp2_with fail
      refine (number_any _ _).mono ?_
      rintro e w4 ⟨rfl, hm⟩
      have HM := hidT hm
      clear hm
      have HT := hidT (HT.out.below HM.out)
      have HB := nxt HB HM.out
      obtain ⟨hc, hf⟩ := rules HB
      go_wp2_with fail
      have HT := hidT (HT.out.below ((Below.refl w4.heap.size w4).alloc (Nat.le_refl _) (.cells #[.int .i64 (numK v), .int .i64 (numN v)] 89)))
      refine (text_numV v _ HT.out).mono ?_
      rintro e w5 ⟨rfl, hb⟩
      have HB := nxt2 HB hb
      obtain ⟨hc, hf⟩ := rules HB
      obtain ⟨ic, jf⟩ := bcell hb
      clear hb
      go_wp2_with (go_at_call 104; refine (null_b _).mono ?_; rintro e w6 ⟨rfl, hb⟩; have HB := nxt HB hb; obtain ⟨hc, hf⟩ := rules HB; clear hb)
      have y0 : w6.cell? ⟨w.heap.size, 0, none⟩ = some (.int .i64 0) := by rw [hc _ _ (by simp only [World.size_alloc]; omega)]; go_simp
      have y1 : w6.cell? ⟨w.heap.size, 1, none⟩ = some (.int .i64 0) := by rw [hc _ _ (by simp only [World.size_alloc]; omega)]; go_simp
      exact bodyPost_ret (v := .tuple #[.agg #[.int .i64 0, .int .i64 0], .iface 48 (.int .i64 4)]) (by simp [results, Tryz.results142, go_sem, y0, y1]) rfl ⟨rfl, ended HB (w4_below _ _ _ _ _) _ _⟩

end Go.Proofs.YteaanpdckkmjoaaGreatDoor

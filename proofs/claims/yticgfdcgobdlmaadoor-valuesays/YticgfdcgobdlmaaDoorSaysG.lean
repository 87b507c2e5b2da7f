/- What ValueSays calls, each by one contract that serves every input: both sides' answers are one and the same. Conditions: as named. -/
import Derived.Test.YticgfdcgobdlmaaDoorRefOf
import Derived.Test.YticgfdcgobdlmaaDoorRefEval
import Derived.Test.YticgfdcgobdlmaaDoorSame
namespace Go.Proofs.YticgfdcgobdlmaaDoor
open Go.RowKit
set_option linter.unusedVariables false
set_option linter.unusedSimpArgs false
attribute [local go_sem ↓] eql_value neq_value

/-- what Check tells, and its number -/
def chk (k n : Int) : Value := if vok k n then .nilIface else .iface 23 (.int .i64 3)
def flt (k n : Int) : Int := if vok k n then 0 else 3

theorem check_g (k n : Int) (w : World) : Calls Tryd.prog 15 #[.agg #[.int .i64 k, .int .i64 n]] w fun e w' => e = .returned (chk k n) ∧ Below w.heap.size w w' := by
  unfold chk
  cases h : vok k n
  · exact check_no k n w h
  · exact check_yes k n w h
theorem fault_g (k n : Int) (w : World) : Calls Tryd.prog 16 #[.agg #[.int .i64 k, .int .i64 n]] w fun e w' => e = .returned (.int .i64 (flt k n)) ∧ Below w.heap.size w w' := by
  unfold flt
  cases h : vok k n
  · exact fault_no k n w h
  · exact fault_yes k n w h
theorem same_g (k n : Int) (w : World) : Calls Tryd.prog 6 #[chk k n, .int .i64 (flt k n)] w fun e w' => e = .returned (.bool true) ∧ w' = w := by
  unfold chk flt
  cases h : vok k n
  · exact same_err 3 3 w (by omega)
  · exact same_nil 0 w

/-- what Parse tells -/
def prsE (l : List UInt8) : Value := if (ofV l).2.2 = 0 then .nilIface else .iface 23 (.int .i64 4)

theorem ofV_four (l : List UInt8) : (ofV l).2.2 = 0 ∨ (ofV l).2.2 = 4 := by
  unfold ofV
  split
  · exact .inl rfl
  · split
    · exact .inl rfl
    · split
      · exact .inl rfl
      · split
        · exact .inl rfl
        · exact .inr rfl

theorem same_p (l : List UInt8) (w : World) : Calls Tryd.prog 6 #[prsE l, .int .i64 (ofV l).2.2] w fun e w' => e = .returned (.bool true) ∧ w' = w := by
  unfold prsE
  rcases ofV_four l with h | h
  · rw [if_pos h, h]; exact same_nil 0 w
  · rw [if_neg (by omega), h]; exact same_err 4 4 w (by omega)

theorem parse_g (s : ByteArray) (w : World) (ht : Tabs w) (hs : s.size ≤ 50) :
    Calls Tryd.prog 17 #[.string s] w fun e w' => e = .returned (.tuple #[.agg #[.int .i64 (ofV s.data.toList).1, .int .i64 (ofV s.data.toList).2.1], prsE s.data.toList]) ∧ Below w.heap.size w w' := by
  unfold prsE ofV
  by_cases tN : s.data.toList = [110, 117, 108, 108]
  · rw [if_pos tN]; exact parse_N s w (by rw [Lib.toList_data, tN]; rfl)
  · have tN' : (s.toList == [110, 117, 108, 108]) = false := by rw [Lib.toList_data]; exact beq_eq_false_iff_ne.2 tN
    rw [if_neg tN]
    by_cases tT : s.data.toList = [116, 114, 117, 101]
    · rw [if_pos tT]; exact parse_T s w tN' (by rw [Lib.toList_data, tT]; rfl) (by rw [Lib.toList_data, tT]; rfl)
    · have tT' : (s.toList == [116, 114, 117, 101]) = false := by rw [Lib.toList_data]; exact beq_eq_false_iff_ne.2 tT
      rw [if_neg tT]
      by_cases tF : s.data.toList = [102, 97, 108, 115, 101]
      · rw [if_pos tF]; exact parse_F s w tN' (by rw [Lib.toList_data, tF]; rfl)
      · have tF' : (s.toList == [102, 97, 108, 115, 101]) = false := by rw [Lib.toList_data]; exact beq_eq_false_iff_ne.2 tF
        rw [if_neg tF]
        cases hr : refV s.data.toList with
        | some v =>
          obtain ⟨e, b0, b1⟩ := itoa_refV _ v hr
          have hv : Lib.atoiAll s.data.toList = .ok v := by rw [e]; exact atoi_itoa v (by omega) (by omega)
          have hn := num_in v b0 b1
          simp only [hn.1, hn.2]
          exact parse_num s w ht tN' tF' tT' (by omega) v hv b0 b1 e
        | none =>
          by_cases hv : ∃ v, Lib.atoiAll s.data.toList = .ok v
          · obtain ⟨v, hv⟩ := hv
            refine parse_else s w ht tN' tF' tT' (by omega) v hv ?_
            unfold numL
            split
            · rename_i hb
              intro e
              rw [e, refV_itoa v hb.1 hb.2] at hr
              cases hr
            · exact tN
          · exact parse_no s w ht tN' tF' tT' (by omega) (fun n h => hv ⟨n, h⟩)

theorem good_g (k n : Int) (w : World) : Calls Tryd.prog 19 #[.agg #[.int .i64 k, .int .i64 n]] w fun e w' => e = .returned (.bool (vok k n)) ∧ Below w.heap.size w w' := by
  have hv : (flt k n == 0) = vok k n := by
    unfold flt
    cases vok k n <;> rfl
  rw [← hv]
  clear hv
  go_enter Tryd.func19, Tryd.ntmps19
  go_wp2_with (go_at_call 16; refine (fault_g _ _ _).mono ?_; rintro e w1 ⟨rfl, hb⟩; have HB := hidT hb; clear hb)
  go_ret
  exact ⟨rfl, ((Below.refl _ _).alloc (Nat.le_refl _) _).trans (HB.out.mono (by simp))⟩

set_option maxRecDepth 100000 in
theorem values_g (w : World) : Calls Tryd.prog 9 #[] w fun e w' => e = .returned (.bool true) ∧ Below w.heap.size w w' := by
  have HB : Hid (Below ((w.alloc (.cells #[.int .i64 2, .int .i64 0] 32)).alloc (.cells #[.int .i64 2, .int .i64 0] 32)).heap.size ((w.alloc (.cells #[.int .i64 2, .int .i64 0] 32)).alloc (.cells #[.int .i64 2, .int .i64 0] 32)) ((w.alloc (.cells #[.int .i64 2, .int .i64 0] 32)).alloc (.cells #[.int .i64 2, .int .i64 0] 32))) := Below.refl _ _
  have kn := kin_some ((w.alloc (.cells #[.int .i64 2, .int .i64 0] 32)).alloc (.cells #[.int .i64 2, .int .i64 0] 32))
  obtain ⟨kc, kf⟩ := kin_rules ((w.alloc (.cells #[.int .i64 2, .int .i64 0] 32)).alloc (.cells #[.int .i64 2, .int .i64 0] 32))
  have d1 : andK 2 0 0 0 = 2 := rfl
  have d2 : andN 2 0 0 0 = 0 := rfl
  have d3 : notV 2 0 = (2, 1) := rfl
  have d4 : b01 true = 1 := rfl
  have d5 : numN 5 = 5 := by decide
  have fld : ∀ (x y : Int) w, (Instr.field 32 (.agg #[.int .i64 x, .int .i64 y]) 1).run Tryd.prog w = .ok (.int .i64 y) w := fun x y w => by kernel_rfl
  go_enter Tryd.func9, Tryd.ntmps9
  go_wp2_with (go_at_call 13; refine (truth_any _ _).mono ?_; rintro e w' ⟨rfl, rfl⟩)
  refine wp_region_kin HB (by kernel_rfl) (by kernel_rfl) ?_
  repeat (go_big_quiet_step (first | (go_at_call 10; exact kin_of (null_b _)) | (go_at_call 23; exact kin_of (and_any _ _ _ _ _)) | (go_at_call 24; exact kin_of (not_any _ _ _)) | (go_at_call 13; exact kin_of (truth_bb _ _)) | (go_at_call 11; exact kin_of (number_any _ _))))
  refine wpQuiet_nil ?_
  rintro _ ⟨p, rfl⟩
  go_wp2_with fail
  go_ret
  exact ⟨rfl, (((Below.refl _ _).alloc (Nat.le_refl _) _).alloc (by simp) _).trans (p.h.mono (by simp; omega))⟩
end Go.Proofs.YticgfdcgobdlmaaDoor

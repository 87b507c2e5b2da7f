/- The law WindowSays, over this seat's translation. Conditions: none. -/
import Derived.Test.YtchddjlbjldnpabWin
import Derived.Test.YtchddjlbjldnpabNums
namespace Go.Proofs.Ytchddjlbjldnpab
open Go.ChangeShapes Go.WideShapes Go.ChangeAt Go.RowKit
set_option linter.unusedVariables false
set_option linter.unusedSimpArgs false

theorem rowI_of_rowG {w : World} {v : Value} {xs : List Int} (h : RowG w v 1 xs.length (xs.map (Value.int .i64))) (h0 : 0 < xs.length) : RowI w v xs := by
  rcases h.2 with ⟨-, hn⟩ | ⟨g, off, cap, rfl, h1, h2, h3, h4⟩
  · omega
  · refine .inr ⟨g, off, cap, rfl, h1, h2, h3, fun i hi => ?_⟩
    rw [h4 i (by omega)]
    simp [List.getD, hi]

theorem win7 : winL 7 10 5 = [0, 5] := by decide

set_option maxRecDepth 100000 in
set_option maxHeartbeats 1000000 in
theorem windowSays_walk (a z s : Int) (w : World) :
    Calls Try.prog 3 #[.int .i64 a, .int .i64 z, .int .i64 s] w fun e w' => e = .returned (.bool true) ∧ Below w.heap.size w w' := by
  have S0 := hidE (fun w => starts_any 7 10 5 w (by unfold MayW; decide))
  rw [win7] at S0
  go_enter Try.func3, Try.ntmps3
  go_wp2_with fail
  refine (S0.out _).mono ?_
  rintro e w1 ⟨u0, rfl, ho, hb⟩
  have HB := hidE hb
  have R0 := rowG_of_owns ho
  obtain ⟨ao, cap, rfl⟩ := rowG_shape R0
  clear ho hb S0
  go_wp2_with fail
  have A1 := (Below.refl w1.heap.size w1).alloc (Nat.le_refl _) (.cells #[.int .i64 0, .int .i64 5] 3)
  have HB := nxt HB A1
  refine (nums_any _ _ _ [0, 5] [0, 5] (rowI_of_rowG (rowG_below R0 A1) (by decide)) (rowI_of_rowG (rowG_lit w1 3 [.int .i64 0, .int .i64 5] w1.heap.size 2 rfl rfl (by decide)) (by decide)) rfl).mono ?_
  rintro e w2 ⟨rfl, hb⟩
  have HB := nxt HB hb
  clear hb R0 A1
  by_cases c1 : 0 ≤ a
  case neg => go_wp2_with fail; go_ret; exact ⟨rfl, HB.out⟩
  have d1 : decide (a < 0) = false := by simp; omega
  by_cases c2 : a ≤ 9999
  case neg => go_wp2_with fail; go_ret; exact ⟨rfl, HB.out⟩
  have d2 : decide (9999 < a) = false := by simp; omega
  by_cases c3 : 1 ≤ z
  case neg => go_wp2_with fail; go_ret; exact ⟨rfl, HB.out⟩
  have d3 : decide (z < 1) = false := by simp; omega
  by_cases c4 : z ≤ 1000
  case neg => go_wp2_with fail; go_ret; exact ⟨rfl, HB.out⟩
  have d4 : decide (1000 < z) = false := by simp; omega
  by_cases c5 : 1 ≤ s
  case neg => go_wp2_with fail; go_ret; exact ⟨rfl, HB.out⟩
  have d5 : decide (s < 1) = false := by simp; omega
  by_cases c6 : s ≤ z
  case neg => go_wp2_with fail; go_ret; exact ⟨rfl, HB.out⟩
  have d6 : decide (z < s) = false := by simp; omega
  by_cases c7 : z ≤ 4 * s
  case neg => go_wp2_with fail; go_ret; exact ⟨rfl, HB.out⟩
  have d7 : decide (4 * s < z) = false := by simp; omega
  have hM : MayW a z s := ⟨c1, c2, c5, c6, c4, c7⟩
  have hlen : 0 < (winL a z s).length := by
    have := (winK_is hM).2.2
    unfold winL
    rw [steps_len]
    exact this
  go_wp2_with fail
  refine (starts_any a z s _ hM).mono ?_
  rintro e w3 ⟨u1, rfl, ho1, hb⟩
  have HB := nxt HB hb
  have R1 := rowG_of_owns ho1
  clear hb ho1
  go_wp2_with fail
  refine (rstarts_any a z s _ hM).mono ?_
  rintro e w4 ⟨u2, rfl, ho2, hb⟩
  have R1 := rowG_below R1 hb
  have HB := nxt HB hb
  have R2 := rowG_of_owns ho2
  clear hb ho2
  go_wp2_with fail
  refine (nums_any _ _ _ _ _ (rowI_of_rowG R1 hlen) (rowI_of_rowG R2 hlen) rfl).mono ?_
  rintro e w5 ⟨rfl, hb⟩
  have HB := nxt HB hb
  rw [show decide (winL a z s = winL a z s) = true from by simp]
  clear R1 R2 hb
  go_wp2_with fail
  go_ret
  exact ⟨rfl, HB.out⟩
end Go.Proofs.Ytchddjlbjldnpab

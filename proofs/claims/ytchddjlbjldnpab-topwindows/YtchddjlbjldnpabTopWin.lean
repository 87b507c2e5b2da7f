/- The law TopWindows, over this seat's translation. Conditions: none. -/
import Derived.Test.YtchddjlbjldnpabWin
namespace Go.Proofs.Ytchddjlbjldnpab
open Go.ChangeShapes Go.WideShapes Go.ChangeAt Go.RowKit
set_option linter.unusedVariables false
set_option linter.unusedSimpArgs false

theorem rowW_cell {w : World} {u : Value} {F s : Int} {K : Nat} (h : RowG w u 1 (stepsL F s K).length ((stepsL F s K).map (Value.int .i64))) (hK : 0 < K) :
    ∃ g off cap, u = .slice (some ⟨g, off, none⟩) K cap ∧ K ≤ cap ∧ cap ≤ maxLen ∧ g < w.heap.size ∧ ∀ i, i < K → w.cell? ⟨g, off + i, none⟩ = some (.int .i64 (F + (i : Int) * s)) := by
  rw [steps_len] at h
  rcases h.2 with ⟨-, h0⟩ | ⟨g, off, cap, rfl, h1, h2, h3, h4⟩
  · omega
  · refine ⟨g, off, cap, rfl, h1, h2, h3, fun i hi => ?_⟩
    rw [h4 i (by omega)]
    simp [stepsL, hi]

theorem win_last {a z s : Int} (h : MayW a z s) : winF a z s - s + z ≤ a ∧ a < winF a z s + (winK a z s : Int) * s := by
  have hf := win_facts h
  refine ⟨?_, ?_⟩
  · unfold winF
    omega
  · have h1 : ¬ (winF a z s + (winK a z s : Int) * s ≤ a) := fun c => Nat.lt_irrefl _ ((win_upto h (winK a z s)).1 c)
    omega

set_option maxRecDepth 100000 in
set_option maxHeartbeats 1000000 in
theorem topWindows_walk (a z s : Int) (w : World) :
    Calls Try.prog 8 #[.int .i64 a, .int .i64 z, .int .i64 s] w fun e w' => e = .returned (.bool true) ∧ Below w.heap.size w w' := by
  have k1 : (winL 3 10 10).length = 1 := by decide
  have S0 := hidE (fun w => starts_any 3 10 10 w (by unfold MayW; decide))
  rw [k1] at S0
  go_enter Try.func8, Try.ntmps8
  go_wp2_with fail
  refine (S0.out _).mono ?_
  rintro e w1 ⟨u0, rfl, ho, hb⟩
  have HB := hidE hb
  obtain ⟨ao, cap, rfl⟩ := owns_shapeE ho
  clear ho hb S0 k1
  by_cases c1 : 0 ≤ a
  case neg => go_wp2_with fail; go_ret; exact ⟨rfl, HB.out⟩
  have d1 : decide (a < 0) = false := by simp; omega
  by_cases c2 : a ≤ 9999
  case neg => go_wp2_with fail; go_ret; exact ⟨rfl, HB.out⟩
  have d2 : decide (9999 < a) = false := by simp; omega
  by_cases c3 : 1 ≤ z
  case neg => go_wp2_with fail; go_ret; exact ⟨rfl, HB.out⟩
  have d3 : decide (z < 1) = false := by simp; omega
  by_cases c4 : z ≤ 1000
  case neg => go_wp2_with fail; go_ret; exact ⟨rfl, HB.out⟩
  have d4 : decide (1000 < z) = false := by simp; omega
  by_cases c5 : 1 ≤ s
  case neg => go_wp2_with fail; go_ret; exact ⟨rfl, HB.out⟩
  have d5 : decide (s < 1) = false := by simp; omega
  by_cases c6 : s ≤ z
  case neg => go_wp2_with fail; go_ret; exact ⟨rfl, HB.out⟩
  have d6 : decide (z < s) = false := by simp; omega
  by_cases c7 : z ≤ 4 * s
  case neg => go_wp2_with fail; go_ret; exact ⟨rfl, HB.out⟩
  have d7 : decide (4 * s < z) = false := by simp; omega
  by_cases c8 : a ≤ 9999 - s
  case neg => go_wp2_with fail; go_ret; exact ⟨rfl, HB.out⟩
  have d8 : decide (9999 - s < a) = false := by simp; omega
  have hM : MayW a z s := ⟨c1, c2, c5, c6, c4, c7⟩
  have hM2 : MayW (a + s) z s := ⟨by omega, by omega, c5, c6, c4, c7⟩
  go_wp2_with fail
  refine (starts_any a z s _ hM).mono ?_
  rintro e w2 ⟨u1, rfl, ho1, hb⟩
  have HB := nxt HB hb
  have R1 := rowG_of_owns ho1
  clear hb ho1
  go_wp2_with fail
  refine (starts_any (a + s) z s _ hM2).mono ?_
  rintro e w3 ⟨u2, rfl, ho2, hb⟩
  have R1 := rowG_below R1 hb
  have HB := nxt HB hb
  have R2 := rowG_of_owns ho2
  clear hb ho2
  obtain ⟨lk, lf⟩ := win_later hM hM2
  obtain ⟨hk, hk4, hk0⟩ := winK_is hM
  have UP := hidE (fun i => win_upto hM i)
  have RS := hidE (fun i c => win_rest hM i c)
  obtain ⟨la1, la2⟩ := win_last hM
  have hlow : -1000 ≤ winF a z s := by
    have := (win_rest hM 0 hk0).1
    simp at this
    omega
  unfold winL at R1 R2
  rw [lk, lf] at R2
  clear hk lk lf hM hM2
  generalize winF a z s = F at *
  generalize winK a z s = K at *
  obtain ⟨g1, o1, p1, rfl, q1, q2, q3, C1⟩ := rowW_cell R1 hk0
  obtain ⟨g2, o2, p2, rfl, r1, r2, r3, C2⟩ := rowW_cell R2 hk0
  have CC1 := hidE C1
  have CC2 := hidE C2
  clear C1 C2 R1 R2
  unfold maxLen at q2 r2
  have c0 := CC1.out 0 hk0
  have d0 := CC1.out (K - 1) (by omega)
  have hkc : ((K - 1 : Nat) : Int) = (K : Int) - 1 := by omega
  have dU := (UP.out (K - 1)).2 (by omega)
  rw [hkc, Int.sub_mul, Int.one_mul] at d0 dU
  have dL : a < F + ((K : Int) * s - s) + s := by omega
  generalize F + ((K : Int) * s - s) = t9 at *
  rw [show F + ((0 : Nat) : Int) * s = F from by simp, Nat.add_zero] at c0
  have zK : ((K : Int) != (K : Int)) = false := by simp
  go_wp2_with fail
  go_loopw [9] (fun i wr => ∃ n : Nat, n ≤ K ∧ i = .int .i64 n ∧ Hid (Below w3.heap.size w3 wr)) (fun i _ => (K - intOf i).toNat)
  case atStart => exact ⟨0, by omega, rfl, Below.refl _ _⟩
  case round =>
    obtain ⟨n, hn, rfl, HR⟩ := hrel
    by_cases hlt : n < K
    · have e1 := CC1.out n hlt
      have e2 := CC2.out n hlt
      have t1 := (UP.out n).2 hlt
      obtain ⟨t2, t3⟩ := RS.out n hlt
      have hs0 : 0 ≤ (n : Int) * s := Int.mul_nonneg (by omega) (by omega)
      have t4 : -1000 ≤ F + (n : Int) * s := by omega
      have E3 : Hid (0 < n → w3.cell? ⟨g1, o1 + (n - 1), none⟩ = some (.int .i64 (F + (n : Int) * s - s))) := fun c => by
        have := CC1.out (n - 1) (by omega)
        rw [show ((n - 1 : Nat) : Int) = (n : Int) - 1 from by omega, Int.sub_mul, Int.one_mul] at this
        rw [this, show F + ((n : Int) * s - s) = F + (n : Int) * s - s from by omega]
      rw [show F + s + (n : Int) * s = F + (n : Int) * s + s from by omega] at e2
      have b3 : ((F + (n : Int) * s).tmod s != 0) = false := by simp [t3]
      clear t3 c0 d0
      generalize F + (n : Int) * s = t at *
      have b5 : (t + s != t + s) = false := by simp
      have b1 : decide (a < t) = false := by simp; omega
      have b2 : decide (t + z ≤ a) = false := by simp; omega
      by_cases h0 : n = 0
      · subst h0
        rw [Nat.add_zero] at e1 e2
        clear E3
        have kn := kin_some w3
        obtain ⟨kc, kf⟩ := kin_rules w3
        go_wp2_with fail
        refine wp_region_kin HR (by kernel_rfl) (by kernel_rfl) ?_
        repeat (go_big_quiet_step (fail))
        refine wpQuiet_nil ?_
        rintro _ ⟨pk, rfl⟩
        clear kc kf kn
        have HP := hidE pk.h
        generalize pk.w = wp at *
        go_wp2_with fail
        go_roundw
        case rel => exact ⟨1, by omega, rfl, HP⟩
        case measure => simp [intOf]; omega
      · obtain ⟨m, rfl⟩ : ∃ m, n = m + 1 := ⟨n - 1, by omega⟩
        have e3 := E3.out (by omega)
        rw [Nat.add_sub_cancel] at e3
        clear E3
        have b4 : (t != t - s + s) = false := by simp
        have b6 : (t != t) = false := by simp
        have b0 : decide (0 < ((m + 1 : Nat) : Int)) = true := by simp
        have b7 : decide (0 < (m : Int) + 1) = true := by simp
        have kn := kin_some w3
        obtain ⟨kc, kf⟩ := kin_rules w3
        go_wp2_with fail
        refine wp_region_kin HR (by kernel_rfl) (by kernel_rfl) ?_
        repeat (go_big_quiet_step (fail))
        refine wpQuiet_nil ?_
        rintro _ ⟨pk, rfl⟩
        clear kc kf kn
        have HP := hidE pk.h
        generalize pk.w = wp at *
        go_wp2_with fail
        go_roundw
        case rel => exact ⟨m + 1 + 1, by omega, by go_num, HP⟩
        case measure => simp [intOf]; omega
    · have hnK : n = K := by omega
      subst hnK
      obtain ⟨hc, hf⟩ := rules HR
      go_wp2_with fail
      go_ret
      exact ⟨rfl, done HB.out HR⟩
end Go.Proofs.Ytchddjlbjldnpab

/- The contracts of window.Starts and of the document's Starts, over this seat's translation: both list where the windows that a time is in begin. Conditions: a time, a size and a slide that may be. -/
import Derived.Test.YtchddjlbjldnpabBase
import Derived.Test.YtchddjlbjldnpabWinPure
namespace Go.Proofs.Ytchddjlbjldnpab
open Go.ChangeShapes Go.WideShapes Go.ChangeAt Go.RowKit
set_option linter.unusedVariables false
set_option linter.unusedSimpArgs false

theorem may_any (a z s : Int) (w : World) (h : MayW a z s) :
    Calls Try.prog 48 #[.int .i64 a, .int .i64 z, .int .i64 s] w fun e w' => e = .returned (.bool true) ∧ w' = w := by
  obtain ⟨a0, a1, s1, sz, z1, z4⟩ := h
  go_enter Try.func48, Try.ntmps48
  go_wp2_with fail
  go_ret
  exact ⟨rfl, rfl⟩

set_option maxRecDepth 100000 in
theorem starts_any (a z s : Int) (w : World) (h : MayW a z s) :
    Calls Try.prog 11 #[.int .i64 a, .int .i64 z, .int .i64 s] w fun e w' => ∃ u, e = .returned u ∧ w'.ownsRow w.heap.size 3 1 u (winL a z s).length ((winL a z s).map (Value.int .i64)) ∧ Below w.heap.size w w' := by
  obtain ⟨i0, hi, hz0, hz1, hz2⟩ := info_parts infoI
  have HM := hidE h
  have hf := win_facts h
  obtain ⟨hk, hk4, hk0⟩ := winK_is h
  obtain ⟨a0, a1, s1, sz, z1, z4⟩ := h
  obtain ⟨m0, m1, m2, -⟩ := win_mod a0 s1
  have hF : winF a z s = a - a.tmod s - winQ a z s * s := rfl
  have he : a.tmod s = a % s := Int.tmod_eq_emod_of_nonneg a0
  have hQ : winQ a z s = (z - 1 - a % s) / s := by
    unfold winQ
    rw [he]
    exact Int.tdiv_eq_ediv_of_nonneg (by omega)
  rw [he] at hF hf m0 m1 m2
  clear he
  have HF := hidE hF
  clear hF
  rw [hQ] at hf HF hk
  clear hQ
  have hw : winL a z s = stepsL (winF a z s) s (winK a z s) := rfl
  rw [hw]
  have hF0 : -1000 ≤ winF a z s := by rw [HF.out]; omega
  have UP := hidE (fun i => win_upto HM.out i)
  clear hw hk
  generalize winF a z s = F at *
  generalize winK a z s = K at *
  go_enter Try.func11, Try.ntmps11
  go_wp2_with (go_at_call 48; refine (may_any a z s _ HM.out).mono ?_; rintro e w' ⟨rfl, hw⟩; subst w')
  rw [← HF.out]
  clear hf m0 m1 m2 HF
  go_loopw [9, 10] (fun v i wr => ∃ n : Nat, n ≤ K ∧ i = .int .i64 (F + (n : Int) * s) ∧ Hid (wr.ownsRow w.heap.size 3 1 v n ((stepsL F s n).map (Value.int .i64))) ∧ Hid (Below w.heap.size w wr)) (fun _ i _ => (a + 1 - intOf i).toNat)
  case atStart => exact ⟨0, Nat.zero_le _, by simp, World.ownsRow_nil _ _ _ _, Below.refl _ _⟩
  case round =>
    obtain ⟨n, hn, rfl, HO, HB⟩ := hrel
    obtain ⟨ao, cap, rfl⟩ := owns_shapeE HO.out
    have hs0 : 0 ≤ (n : Int) * s := Int.mul_nonneg (by omega) (by omega)
    have hst : Hid ((F + (n : Int) * s) + s = F + ((n + 1 : Nat) : Int) * s) := by
      show _ = _
      rw [Int.natCast_add, Int.add_mul]; omega
    have ht0 : -1000 ≤ F + (n : Int) * s := by omega
    have hsn := steps_succ F s n
    have hu := UP.out n
    generalize F + (n : Int) * s = t at *
    by_cases hlt : n < K
    · have ht := hu.2 hlt
      go_wp2_with (at_builtin; go_must (refine wpList_append_own _ rfl (.tmp 38) (.tmp 40) 22 rfl w.heap.size 3 i0 (.int .i64 0) 1 8 Try.underlying22 hi hz0 hz1 hz2 rfl (by decide) _ _ _ rfl (HO.out.alloc _) ⟨wr.heap.size, 0, none⟩ 1 1 [.int .i64 t] rfl rfl (cell_one_newE _ _ _) (by intro u hu; simp at hu; subst hu; rfl) (by show _ ≤ 2 ^ 63 - 1; omega) (by omega) (by have := HB.out.size; simp; omega) ?_))
      intro v' w3 ho3 hg3 _
      have ho4 : w3.ownsRow w.heap.size 3 1 v' (n + 1) ((stepsL F s (n + 1)).map (Value.int .i64)) := by rw [hsn]; simpa using ho3
      have HO3 := hidE ho4
      have HB3 : Hid (Below w.heap.size w w3) := (HB.out.alloc HB.out.size _).grown hg3 (by have := HB.out.size; simp; omega) (fun k hk => (HO.out.lt k hk).1)
      clear ho3 hg3 ho4
      go_wp2_with fail
      go_roundw
      case rel => exact ⟨n + 1, by omega, by rw [← hst.out], HO3, HB3⟩
      case measure => simp [intOf]; omega
    · have ht : ¬ t ≤ a := fun hh => hlt (hu.1 hh)
      have hnK : n = K := by omega
      subst hnK
      go_wp2_with fail
      go_ret
      exact ⟨_, rfl, by rw [steps_len]; exact HO.out, HB.out⟩

set_option maxRecDepth 100000 in
theorem rstarts_any (a z s : Int) (w : World) (h : MayW a z s) :
    Calls Try.prog 13 #[.int .i64 a, .int .i64 z, .int .i64 s] w fun e w' => ∃ u, e = .returned u ∧ w'.ownsRow w.heap.size 3 1 u (winL a z s).length ((winL a z s).map (Value.int .i64)) ∧ Below w.heap.size w w' := by
  obtain ⟨i0, hi, hz0, hz1, hz2⟩ := info_parts infoI
  obtain ⟨hk, hk4, hk0⟩ := winK_is h
  have hw : winL a z s = stepsL (winF a z s) s (winK a z s) := rfl
  rw [hw]
  have HIT := hidE (fun j t c1 c2 c3 c4 c5 c6 => win_hit (t := t) h j c1 c2 c3 c4 c5 c6)
  have REST := hidE (fun i c => (win_rest h i c).2)
  have UP := hidE (fun i => win_upto h i)
  have LOW : Hid (a - z + 1 ≤ winF a z s) := by
    have := win_facts h
    show _ ≤ _
    unfold winF
    omega
  obtain ⟨a0, a1, s1, sz, z1, z4⟩ := h
  clear hw hk
  generalize winF a z s = F at *
  generalize winK a z s = K at *
  go_enter Try.func13, Try.ntmps13
  go_wp2_with fail
  go_loopw [7, 8] (fun v i wr => ∃ (j : Nat) (t : Int), j ≤ K ∧ a - z + 1 ≤ t ∧ t ≤ a + 1 ∧ i = .int .i64 t ∧ Hid (∀ i : Nat, i < j → F + (i : Int) * s < t) ∧ Hid (j < K → t ≤ F + (j : Int) * s) ∧ Hid (wr.ownsRow w.heap.size 3 1 v j ((stepsL F s j).map (Value.int .i64))) ∧ Hid (Below w.heap.size w wr)) (fun _ i _ => (a + 1 - intOf i).toNat)
  case atStart => exact ⟨0, _, Nat.zero_le _, Int.le_refl _, by omega, rfl, fun i hi => absurd hi (by omega), fun _ => by have := LOW.out; simp; omega, World.ownsRow_nil _ _ _ _, Below.refl _ _⟩
  case round =>
    obtain ⟨j, t, hj, t0, t1, rfl, LO, HI, HO, HB⟩ := hrel
    obtain ⟨ao, cap, rfl⟩ := owns_shapeE HO.out
    by_cases hlt : t ≤ a
    · by_cases hm : t.tmod s = 0
      · obtain ⟨hjk, htj⟩ := HIT.out j t hj t0 hlt LO.out HI.out hm
        have hb : (t.tmod s == 0) = true := by simp [hm]
        have hsn := steps_succ F s j
        rw [← htj] at hsn
        have HT := hidE htj
        clear htj hm
        go_wp2_with (at_builtin; go_must (refine wpList_append_own _ rfl (.tmp 22) (.tmp 24) 22 rfl w.heap.size 3 i0 (.int .i64 0) 1 8 Try.underlying22 hi hz0 hz1 hz2 rfl (by decide) _ _ _ rfl (HO.out.alloc _) ⟨wr.heap.size, 0, none⟩ 1 1 [.int .i64 t] rfl rfl (cell_one_newE _ _ _) (by intro u hu; simp at hu; subst hu; rfl) (by show _ ≤ 2 ^ 63 - 1; omega) (by omega) (by have := HB.out.size; simp; omega) ?_))
        intro v' w3 ho3 hg3 _
        have ho4 : w3.ownsRow w.heap.size 3 1 v' (j + 1) ((stepsL F s (j + 1)).map (Value.int .i64)) := by rw [hsn]; simpa using ho3
        have HO3 := hidE ho4
        have HB3 : Hid (Below w.heap.size w w3) := (HB.out.alloc HB.out.size _).grown hg3 (by have := HB.out.size; simp; omega) (fun k hk => (HO.out.lt k hk).1)
        clear ho3 hg3 ho4
        go_wp2_with fail
        go_roundw
        case rel =>
          refine ⟨j + 1, t + 1, by omega, by omega, by omega, rfl, fun i hi => ?_, fun _ => ?_, HO3, HB3⟩
          · by_cases h9 : i = j
            · subst h9; rw [← HT.out]; omega
            · have := LO.out i (by omega); omega
          · have := HT.out
            rw [Int.natCast_add, Int.add_mul]; omega
        case measure => simp [intOf]; omega
      · have hb : (t.tmod s == 0) = false := by simp [hm]
        have HI2 : Hid (j < K → t + 1 ≤ F + (j : Int) * s) := fun c => by
          have h1 := HI.out c
          have h2 := REST.out j c
          have h3 : t ≠ F + (j : Int) * s := fun e => hm (by rw [e]; exact h2)
          omega
        clear hm
        go_wp2_with fail
        go_roundw
        case rel => exact ⟨j, t + 1, hj, by omega, by omega, rfl, fun i hi => by have := LO.out i hi; omega, HI2, HO, HB⟩
        case measure => simp [intOf]; omega
    · have hjk : j = K := by
        by_cases c : j < K
        · have h1 := HI.out c
          have h2 := (UP.out j).2 c
          omega
        · omega
      subst hjk
      go_wp2_with fail
      go_ret
      exact ⟨_, rfl, by rw [steps_len]; exact HO.out, HB.out⟩
end Go.Proofs.Ytchddjlbjldnpab

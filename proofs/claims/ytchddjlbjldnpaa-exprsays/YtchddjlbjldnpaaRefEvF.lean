/- The contract of penstockref.EventFault, over this seat's translation. Conditions: none. -/
import Derived.Test.YtchddjlbjldnpaaExpr11
import Derived.Test.YtchddjlbjldnpaaRefVals
namespace Go.Proofs.Ytchddjlbjldnpaa
open Go.ChangeShapes Go.WideShapes Go.ChangeAt Go.RowKit
set_option linter.unusedVariables false
set_option linter.unusedSimpArgs false

set_option maxRecDepth 100000 in
set_option maxHeartbeats 2000000 in
theorem evFault_any (t k1 k2 a1 a2 b1 b2 : Int) (w : World) : Calls Try.prog 21 #[aggE t k1 k2 a1 a2 b1 b2] w fun e w' => ∃ c : Int, e = .returned (.int .i64 c) ∧ 0 ≤ c ∧ (c = 0 → mayB t k1 k2 a1 a2 b1 b2 = true) ∧ Below w.heap.size w w' := by
  have HW : Hid (Below w.heap.size w ((w.alloc (.cells #[.int .i64 t, .int .i64 k1, .int .i64 k2, .int .i64 a1, .int .i64 a2, .int .i64 b1, .int .i64 b2] 37)).alloc (.cells #[.int .i64 k1, .int .i64 k2, .int .i64 a1, .int .i64 a2, .int .i64 b1, .int .i64 b2] 35))) := ((Below.refl _ _).alloc (Nat.le_refl _) _).alloc (by simp) _
  have HROW : Hid (RowG ((w.alloc (.cells #[.int .i64 t, .int .i64 k1, .int .i64 k2, .int .i64 a1, .int .i64 a2, .int .i64 b1, .int .i64 b2] 37)).alloc (.cells #[.int .i64 k1, .int .i64 k2, .int .i64 a1, .int .i64 a2, .int .i64 b1, .int .i64 b2] 35)) (.slice (some ⟨w.heap.size + 1, 0, none⟩) 3 3) 2 3 (rowV [(k1, k2), (a1, a2), (b1, b2)])) := by
    have h := World.ownsRow_lit (base := 0) (size := 2) (e := 35) (w.alloc (.cells #[.int .i64 t, .int .i64 k1, .int .i64 k2, .int .i64 a1, .int .i64 a2, .int .i64 b1, .int .i64 b2] 37)) #[.int .i64 k1, .int .i64 k2, .int .i64 a1, .int .i64 a2, .int .i64 b1, .int .i64 b2] 3 (Nat.zero_le _) (by decide) rfl
    have h2 := rowG_of_owns h
    simp only [World.size_alloc] at h2
    exact h2
  have e0 : ((w.alloc (.cells #[.int .i64 t, .int .i64 k1, .int .i64 k2, .int .i64 a1, .int .i64 a2, .int .i64 b1, .int .i64 b2] 37)).alloc (.cells #[.int .i64 k1, .int .i64 k2, .int .i64 a1, .int .i64 a2, .int .i64 b1, .int .i64 b2] 35)).cell? ⟨w.heap.size, 0, none⟩ = some (.int .i64 t) := by go_simp
  have kn := kin_some ((w.alloc (.cells #[.int .i64 t, .int .i64 k1, .int .i64 k2, .int .i64 a1, .int .i64 a2, .int .i64 b1, .int .i64 b2] 37)).alloc (.cells #[.int .i64 k1, .int .i64 k2, .int .i64 a1, .int .i64 a2, .int .i64 b1, .int .i64 b2] 35))
  obtain ⟨kc, kf⟩ := kin_rules ((w.alloc (.cells #[.int .i64 t, .int .i64 k1, .int .i64 k2, .int .i64 a1, .int .i64 a2, .int .i64 b1, .int .i64 b2] 37)).alloc (.cells #[.int .i64 k1, .int .i64 k2, .int .i64 a1, .int .i64 a2, .int .i64 b1, .int .i64 b2] 35))
  have hsz : ((w.alloc (.cells #[.int .i64 t, .int .i64 k1, .int .i64 k2, .int .i64 a1, .int .i64 a2, .int .i64 b1, .int .i64 b2] 37)).alloc (.cells #[.int .i64 k1, .int .i64 k2, .int .i64 a1, .int .i64 a2, .int .i64 b1, .int .i64 b2] 35)).heap.size = w.heap.size + 2 := by simp
  unfold aggE
  by_cases t1 : t < 0
  · go_enter Try.func21, Try.ntmps21
    go_wp2_with fail
    go_ret
    exact ⟨1, rfl, by decide, fun h => absurd h (by decide), (Below.refl _ _).alloc (Nat.le_refl _) _⟩
  have z1 : decide (t < 0) = false := by simpa using t1
  by_cases t2 : 9999 < t
  · go_enter Try.func21, Try.ntmps21
    go_wp2_with fail
    go_ret
    exact ⟨1, rfl, by decide, fun h => absurd h (by decide), (Below.refl _ _).alloc (Nat.le_refl _) _⟩
  have z2 : decide (9999 < t) = false := by simpa using t2
  have HT : Hid (0 ≤ t ∧ t ≤ 9999) := ⟨by omega, by omega⟩
  clear t1 t2
  go_enter Try.func21, Try.ntmps21
  go_wp2_with fail
  generalize ((w.alloc (.cells #[.int .i64 t, .int .i64 k1, .int .i64 k2, .int .i64 a1, .int .i64 a2, .int .i64 b1, .int .i64 b2] 37)).alloc (.cells #[.int .i64 k1, .int .i64 k2, .int .i64 a1, .int .i64 a2, .int .i64 b1, .int .i64 b2] 35)) = wx at *
  go_loopw [4] (fun i wr => ∃ m : Nat, m ≤ 3 ∧ i = .int .i64 m ∧ Hid (Below wx.heap.size wx wr) ∧ Hid (∀ (j : Nat) (p : V2), j < m → ([(k1, k2), (a1, a2), (b1, b2)] : List V2)[j]? = some p → fineV p = true)) (fun i _ => 3 - (intOf i).toNat)
  case atStart => exact ⟨0, Nat.zero_le _, rfl, Below.refl _ _, fun j p hj => absurd hj (by omega)⟩
  case round =>
    obtain ⟨m, hm, rfl, HB, HF⟩ := hrel
    by_cases hlt : m < 3
    · obtain ⟨g, off, hao, v0, v1, l1, l2, l3⟩ := rowV_val (l := [(k1, k2), (a1, a2), (b1, b2)]) HROW.out m hlt
      simp only [Option.some.injEq, Addr.mk.injEq] at hao
      obtain ⟨rfl, rfl, -⟩ := hao
      simp only [Nat.zero_add] at v0 v1
      have HK : Hid (([(k1, k2), (a1, a2), (b1, b2)] : List V2)[m]? = some ([(k1, k2), (a1, a2), (b1, b2)] : List V2)[m]) := List.getElem?_eq_getElem _
      generalize ([(k1, k2), (a1, a2), (b1, b2)] : List V2)[m] = q at *
      obtain ⟨q1, q2⟩ := q
      simp only at v0 v1
      clear l1 l2
      by_cases c1 : vok q1 q2 = true
      · have CK : Hid (∀ w, Calls Try.prog 42 #[.agg #[.int .i64 q1, .int .i64 q2]] w fun e w' => e = .returned (.int .i64 0) ∧ Below w.heap.size w w') := fun w => fault_yes q1 q2 w c1
        by_cases c2 : q1 = 2
        · have z2 : (q1 == 2) = true := by simp [c2]
          have HFX : Hid (∃ p, ([(k1, k2), (a1, a2), (b1, b2)] : List V2)[m]? = some p ∧ fineV p = false) := ⟨_, HK.out, by unfold fineV; simp [c2]⟩
          clear c2 c1
          obtain ⟨hc, hf⟩ := rules HB
          go_wp2_with (go_at_call 42; refine (CK.out _).mono ?_; rintro e w2 ⟨rfl, hb⟩; have HB := nxt HB hb; obtain ⟨hc, hf⟩ := rules HB; clear hb)
          go_ret
          exact ⟨_, rfl, by decide, fun h => absurd h (by decide), done HW.out HB⟩
        · have z2 : (q1 == 2) = false := by simp [c2]
          by_cases c3 : q2 < -1000
          · have HFX : Hid (∃ p, ([(k1, k2), (a1, a2), (b1, b2)] : List V2)[m]? = some p ∧ fineV p = false) := ⟨_, HK.out, by unfold fineV; simp; omega⟩
            clear c2 c1
            obtain ⟨hc, hf⟩ := rules HB
            go_wp2_with (go_at_call 42; refine (CK.out _).mono ?_; rintro e w2 ⟨rfl, hb⟩; have HB := nxt HB hb; obtain ⟨hc, hf⟩ := rules HB; clear hb)
            go_ret
            exact ⟨_, rfl, by decide, fun h => absurd h (by decide), done HW.out HB⟩
          · have z3 : decide (q2 < -1000) = false := by simp; omega
            by_cases c4 : 1000 < q2
            · have HFX : Hid (∃ p, ([(k1, k2), (a1, a2), (b1, b2)] : List V2)[m]? = some p ∧ fineV p = false) := ⟨_, HK.out, by unfold fineV; simp; omega⟩
              clear c2 c1 c3
              obtain ⟨hc, hf⟩ := rules HB
              go_wp2_with (go_at_call 42; refine (CK.out _).mono ?_; rintro e w2 ⟨rfl, hb⟩; have HB := nxt HB hb; obtain ⟨hc, hf⟩ := rules HB; clear hb)
              go_ret
              exact ⟨_, rfl, by decide, fun h => absurd h (by decide), done HW.out HB⟩
            · have z4 : decide (1000 < q2) = false := by simp; omega
              have HN : Hid (fineV (q1, q2) = true) := by
                show _ = _
                unfold fineV
                simp only [c1, z2, decide_eq_true (by omega : -1000 ≤ q2), decide_eq_true (by omega : q2 ≤ 1000)]
                rfl
              clear c2 c1 c3 c4
              obtain ⟨hc, hf⟩ := rules HB
              go_wp2_with (go_at_call 42; refine (CK.out _).mono ?_; rintro e w2 ⟨rfl, hb⟩; have HB := nxt HB hb; obtain ⟨hc, hf⟩ := rules HB; clear hb)
              go_roundw
              case rel => exact ⟨m + 1, by omega, by go_num, HB, fun j p hj hp => by
                by_cases hjm : j = m
                · subst hjm
                  rw [HK.out] at hp
                  cases hp
                  exact HN.out
                · exact HF.out j p (by omega) hp⟩
              case measure => simp [intOf]; omega
      · have CK : Hid (∀ w, Calls Try.prog 42 #[.agg #[.int .i64 q1, .int .i64 q2]] w fun e w' => e = .returned (.int .i64 3) ∧ Below w.heap.size w w') := fun w => fault_no q1 q2 w (by simpa using c1)
        have HFX : Hid (∃ p, ([(k1, k2), (a1, a2), (b1, b2)] : List V2)[m]? = some p ∧ fineV p = false) := ⟨_, HK.out, by unfold fineV; simp [c1]⟩
        clear c1
        obtain ⟨hc, hf⟩ := rules HB
        go_wp2_with (go_at_call 42; refine (CK.out _).mono ?_; rintro e w2 ⟨rfl, hb⟩; have HB := nxt HB hb; obtain ⟨hc, hf⟩ := rules HB; clear hb)
        go_ret
        exact ⟨_, rfl, by decide, fun h => absurd h (by decide), done HW.out HB⟩
    · have hm3 : m = 3 := by omega
      subst hm3
      have HY := hidE (may_yes t k1 k2 a1 a2 b1 b2 (fun j p hp => HF.out j p (by have := (List.getElem?_eq_some_iff.1 hp).1; simpa using this) hp))
      go_wp2_with fail
      go_ret
      exact ⟨0, rfl, by decide, fun _ => by rw [HY.out, decide_eq_true HT.out.1, decide_eq_true HT.out.2]; rfl, done HW.out HB⟩
end Go.Proofs.Ytchddjlbjldnpaa

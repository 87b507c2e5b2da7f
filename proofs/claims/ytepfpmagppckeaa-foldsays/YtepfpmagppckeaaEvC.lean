/- The contract of the document's EventFault, by one number; what that says of an event. Conditions: none. -/
import Derived.Test.YtepfpmagppckeaaExpr11
import Derived.Test.YtepfpmagppckeaaRefVals
namespace Go.Proofs.Ytepfpmagppckeaa
open Go.ChangeShapes Go.WideShapes Go.ChangeAt Go.RowKit
set_option linter.unusedVariables false
set_option linter.unusedSimpArgs false

/-- an event -/
structure Ev where
  (t k1 k2 a1 a2 b1 b2 : Int)
def cellsE (e : Ev) : List Value := [.int .i64 e.t, .int .i64 e.k1, .int .i64 e.k2, .int .i64 e.a1, .int .i64 e.a2, .int .i64 e.b1, .int .i64 e.b2]
def aggEv (e : Ev) : Value := .agg #[.int .i64 e.t, .int .i64 e.k1, .int .i64 e.k2, .int .i64 e.a1, .int .i64 e.a2, .int .i64 e.b1, .int .i64 e.b2]
theorem cellsE_len (e : Ev) : (cellsE e).length = 7 := rfl

/-- what is wrong with a field, by number -/
def fldC (k n : Int) : Int := if vok k n = false then 3 else if k = 2 then 3 else if n < -1000 then 1 else if 1000 < n then 1 else 0
/-- what is wrong with an event, by number -/
def evC (e : Ev) : Int := if e.t < 0 then 1 else if 9999 < e.t then 1 else if fldC e.k1 e.k2 ≠ 0 then fldC e.k1 e.k2 else if fldC e.a1 e.a2 ≠ 0 then fldC e.a1 e.a2 else fldC e.b1 e.b2
theorem fldC_cases (k n : Int) : fldC k n = 0 ∨ fldC k n = 1 ∨ fldC k n = 3 := by
  unfold fldC
  split
  · simp
  · split
    · simp
    · split
      · simp
      · split <;> simp
theorem evC_cases (e : Ev) : evC e = 0 ∨ evC e = 1 ∨ evC e = 3 := by
  unfold evC
  split
  · simp
  · split
    · simp
    · split
      · exact fldC_cases _ _
      · split
        · exact fldC_cases _ _
        · exact fldC_cases _ _

/-- the first of some numbers, from one on, that isn't 0 -/
def nzF (l : List Int) (m : Nat) : Int := ((l.drop m).find? (fun c => c != 0)).getD 0
theorem nzF_stop {l : List Int} {m : Nat} {c : Int} (h : l[m]? = some c) (hc : c ≠ 0) : nzF l m = c := by
  obtain ⟨hm, e⟩ := List.getElem?_eq_some_iff.1 h
  unfold nzF
  rw [List.drop_eq_getElem_cons hm, e]
  have : (c != 0) = true := by simp [hc]
  simp [List.find?, this]
theorem nzF_next {l : List Int} {m : Nat} (h : l[m]? = some 0) : nzF l m = nzF l (m + 1) := by
  obtain ⟨hm, e⟩ := List.getElem?_eq_some_iff.1 h
  unfold nzF
  rw [List.drop_eq_getElem_cons hm, e, List.find?_cons]
  rfl
theorem evC_nz (e : Ev) (h1 : 0 ≤ e.t) (h2 : e.t ≤ 9999) : evC e = nzF [fldC e.k1 e.k2, fldC e.a1 e.a2, fldC e.b1 e.b2] 0 := by
  unfold evC nzF
  rw [if_neg (by omega), if_neg (by omega)]
  by_cases h3 : fldC e.k1 e.k2 = 0
  · rw [if_neg (by simp [h3])]
    by_cases h4 : fldC e.a1 e.a2 = 0
    · rw [if_neg (by simp [h4])]
      by_cases h5 : fldC e.b1 e.b2 = 0 <;> simp [h3, h4, h5]
    · rw [if_pos h4]
      simp [h3, h4]
  · rw [if_pos h3]
    simp [h3]


theorem fldC_fine {k n : Int} (h : fldC k n = 0) : fineV (k, n) = true := by
  unfold fldC at h
  split at h
  · omega
  · split at h
    · omega
    · split at h
      · omega
      · split at h
        · omega
        · rename_i h1 h2 h3 h4
          unfold fineV
          simp only [Bool.not_eq_false] at h1
          simp only [h1, decide_eq_true (by omega : -1000 ≤ n), decide_eq_true (by omega : n ≤ 1000), Bool.and_true, Bool.true_and]
          simpa using h2
theorem evC_may {e : Ev} (h : evC e = 0) : mayB e.t e.k1 e.k2 e.a1 e.a2 e.b1 e.b2 = true := by
  unfold evC at h
  split at h
  · omega
  · split at h
    · omega
    · split at h
      · rename_i h3
        exact absurd h h3
      · split at h
        · rename_i h3
          exact absurd h h3
        · rename_i h1 h2 h3 h4
          simp only [ne_eq, Decidable.not_not] at h3 h4
          unfold mayB
          rw [fldC_fine h3, fldC_fine h4, fldC_fine h, decide_eq_true (by omega : 0 ≤ e.t), decide_eq_true (by omega : e.t ≤ 9999)]
          rfl

set_option maxRecDepth 100000 in
set_option maxHeartbeats 2000000 in
theorem evFault_is (x : Ev) (w : World) : Calls Try.prog 21 #[aggEv x] w fun e w' => e = .returned (.int .i64 (evC x)) ∧ Below w.heap.size w w' := by
  obtain ⟨t, k1, k2, a1, a2, b1, b2⟩ := x
  have HX : Hid (0 ≤ t → t ≤ 9999 → evC ⟨t, k1, k2, a1, a2, b1, b2⟩ = nzF [fldC k1 k2, fldC a1 a2, fldC b1 b2] 0) := fun h1 h2 => evC_nz ⟨t, k1, k2, a1, a2, b1, b2⟩ h1 h2
  have H0 : Hid (Below w.heap.size w (w.alloc (.cells #[.int .i64 t, .int .i64 k1, .int .i64 k2, .int .i64 a1, .int .i64 a2, .int .i64 b1, .int .i64 b2] 37))) := (Below.refl _ _).alloc (Nat.le_refl _) _
  by_cases h1 : t < 0
  · have e : evC ⟨t, k1, k2, a1, a2, b1, b2⟩ = 1 := by unfold evC; rw [if_pos h1]
    rw [e]
    unfold aggEv
    go_enter Try.func21, Try.ntmps21
    go_wp2_with fail
    go_ret
    exact ⟨rfl, H0.out⟩
  have z1 : decide (t < 0) = false := by simp; omega
  by_cases h2 : 9999 < t
  · have e : evC ⟨t, k1, k2, a1, a2, b1, b2⟩ = 1 := by unfold evC; rw [if_neg h1, if_pos h2]
    rw [e]
    unfold aggEv
    go_enter Try.func21, Try.ntmps21
    go_wp2_with fail
    go_ret
    exact ⟨rfl, H0.out⟩
  have z2 : decide (9999 < t) = false := by simp; omega
  rw [HX.out (by omega) (by omega)]
  clear h1 h2 HX
  have H1 : Hid (Below w.heap.size w ((w.alloc (.cells #[.int .i64 t, .int .i64 k1, .int .i64 k2, .int .i64 a1, .int .i64 a2, .int .i64 b1, .int .i64 b2] 37)).alloc (.cells #[.int .i64 k1, .int .i64 k2, .int .i64 a1, .int .i64 a2, .int .i64 b1, .int .i64 b2] 35))) := H0.out.alloc (by simp) _
  have c0 : ∀ j, j < 6 → ((w.alloc (.cells #[.int .i64 t, .int .i64 k1, .int .i64 k2, .int .i64 a1, .int .i64 a2, .int .i64 b1, .int .i64 b2] 37)).alloc (.cells #[.int .i64 k1, .int .i64 k2, .int .i64 a1, .int .i64 a2, .int .i64 b1, .int .i64 b2] 35)).cell? ⟨w.heap.size + 1, j, none⟩ = (rowV [(k1, k2), (a1, a2), (b1, b2)])[j]? := fun j hj => by
    rcases (by omega : j = 0 ∨ j = 1 ∨ j = 2 ∨ j = 3 ∨ j = 4 ∨ j = 5) with rfl | rfl | rfl | rfl | rfl | rfl <;> go_simp <;> rfl
  have HC0 := hidE c0
  have lx : w.heap.size + 1 < ((w.alloc (.cells #[.int .i64 t, .int .i64 k1, .int .i64 k2, .int .i64 a1, .int .i64 a2, .int .i64 b1, .int .i64 b2] 37)).alloc (.cells #[.int .i64 k1, .int .i64 k2, .int .i64 a1, .int .i64 a2, .int .i64 b1, .int .i64 b2] 35)).heap.size := by simp
  clear c0 H0
  unfold aggEv
  go_enter Try.func21, Try.ntmps21
  go_wp2_with fail
  generalize ((w.alloc (.cells #[.int .i64 t, .int .i64 k1, .int .i64 k2, .int .i64 a1, .int .i64 a2, .int .i64 b1, .int .i64 b2] 37)).alloc (.cells #[.int .i64 k1, .int .i64 k2, .int .i64 a1, .int .i64 a2, .int .i64 b1, .int .i64 b2] 35)) = wx at *
  go_loopw [4] (fun i wr => ∃ m : Nat, m ≤ 3 ∧ i = .int .i64 m ∧ Hid (nzF [fldC k1 k2, fldC a1 a2, fldC b1 b2] 0 = nzF [fldC k1 k2, fldC a1 a2, fldC b1 b2] m) ∧ Hid (Below wx.heap.size wx wr)) (fun i _ => 3 - (intOf i).toNat)
  case atStart => exact ⟨0, Nat.zero_le _, rfl, rfl, Below.refl _ _⟩
  case round =>
    obtain ⟨m, hm, rfl, HN, HB⟩ := hrel
    by_cases hlt : m < 3
    · have HQ : Hid (∃ p : V2, ([(k1, k2), (a1, a2), (b1, b2)] : List V2)[m]? = some p ∧ [fldC k1 k2, fldC a1 a2, fldC b1 b2][m]? = some (fldC p.1 p.2)) := by
        rcases (by omega : m = 0 ∨ m = 1 ∨ m = 2) with rfl | rfl | rfl
        · exact ⟨(k1, k2), rfl, rfl⟩
        · exact ⟨(a1, a2), rfl, rfl⟩
        · exact ⟨(b1, b2), rfl, rfl⟩
      obtain ⟨⟨q1, q2⟩, hq1, hq2⟩ := HQ.out
      simp only at hq2
      have v0 : wx.cell? ⟨w.heap.size + 1, m * 2, none⟩ = some (.int .i64 q1) := (HC0.out (m * 2) (by omega)).trans (by rw [← Nat.add_zero (m * 2), rowV_at _ m 0 _ hq1 (by omega)]; rfl)
      have v1 : wx.cell? ⟨w.heap.size + 1, m * 2 + 1, none⟩ = some (.int .i64 q2) := (HC0.out (m * 2 + 1) (by omega)).trans (by rw [rowV_at _ m 1 _ hq1 (by omega)]; rfl)
      have HN0 : Hid (fldC q1 q2 ≠ 0 → nzF [fldC k1 k2, fldC a1 a2, fldC b1 b2] 0 = fldC q1 q2) := fun h => HN.out.trans (nzF_stop hq2 h)
      have HN1 : Hid (fldC q1 q2 = 0 → nzF [fldC k1 k2, fldC a1 a2, fldC b1 b2] 0 = nzF [fldC k1 k2, fldC a1 a2, fldC b1 b2] (m + 1)) := fun h => HN.out.trans (nzF_next (by rw [hq2, h]))
      clear hq1 hq2 HQ HN
      by_cases c1 : vok q1 q2 = true
      · have CK := hidE (fun w => fault_yes q1 q2 w c1)
        have f0 : ¬ vok q1 q2 = false := by simp [c1]
        by_cases c2 : q1 = 2
        · have zz : (q1 == 2) = true := by simp [c2]
          have EX : Hid (nzF [fldC k1 k2, fldC a1 a2, fldC b1 b2] 0 = 3) := HN0.out (by unfold fldC; rw [if_neg f0, if_pos c2]; decide) |>.trans (by unfold fldC; rw [if_neg f0, if_pos c2])
          clear c2 c1 f0
          obtain ⟨hc, hf⟩ := rules HB
          go_wp2_with (go_at_call 42; refine (CK.out _).mono ?_; rintro e w2 ⟨rfl, hb⟩; have HB := nxt HB hb; obtain ⟨hc, hf⟩ := rules HB; clear hb)
          go_ret
          exact ⟨by rw [EX.out]; rfl, done H1.out HB⟩
        · have zz : (q1 == 2) = false := by simp [c2]
          by_cases c3 : q2 < -1000
          · have EX : Hid (nzF [fldC k1 k2, fldC a1 a2, fldC b1 b2] 0 = 1) := HN0.out (by unfold fldC; rw [if_neg f0, if_neg c2, if_pos c3]; decide) |>.trans (by unfold fldC; rw [if_neg f0, if_neg c2, if_pos c3])
            have z3 : decide (q2 < -1000) = true := by simp [c3]
            clear c2 c1 f0
            obtain ⟨hc, hf⟩ := rules HB
            go_wp2_with (go_at_call 42; refine (CK.out _).mono ?_; rintro e w2 ⟨rfl, hb⟩; have HB := nxt HB hb; obtain ⟨hc, hf⟩ := rules HB; clear hb)
            go_ret
            exact ⟨by rw [EX.out]; rfl, done H1.out HB⟩
          · have z3 : decide (q2 < -1000) = false := by simp; omega
            by_cases c4 : 1000 < q2
            · have EX : Hid (nzF [fldC k1 k2, fldC a1 a2, fldC b1 b2] 0 = 1) := HN0.out (by unfold fldC; rw [if_neg f0, if_neg c2, if_neg c3, if_pos c4]; decide) |>.trans (by unfold fldC; rw [if_neg f0, if_neg c2, if_neg c3, if_pos c4])
              have z4 : decide (1000 < q2) = true := by simp [c4]
              clear c2 c1 f0 c3
              obtain ⟨hc, hf⟩ := rules HB
              go_wp2_with (go_at_call 42; refine (CK.out _).mono ?_; rintro e w2 ⟨rfl, hb⟩; have HB := nxt HB hb; obtain ⟨hc, hf⟩ := rules HB; clear hb)
              go_ret
              exact ⟨by rw [EX.out]; rfl, done H1.out HB⟩
            · have z4 : decide (1000 < q2) = false := by simp; omega
              have HN2 := hidE (HN1.out (by unfold fldC; rw [if_neg f0, if_neg c2, if_neg c3, if_neg c4]))
              clear c2 c1 f0 c3 c4
              obtain ⟨hc, hf⟩ := rules HB
              go_wp2_with (go_at_call 42; refine (CK.out _).mono ?_; rintro e w2 ⟨rfl, hb⟩; have HB := nxt HB hb; obtain ⟨hc, hf⟩ := rules HB; clear hb)
              go_roundw
              case rel => exact ⟨m + 1, by omega, by go_num, HN2, HB⟩
              case measure => simp [intOf]; omega
      · have c1' : vok q1 q2 = false := by simpa using c1
        have CK := hidE (fun w => fault_no q1 q2 w c1')
        have EX : Hid (nzF [fldC k1 k2, fldC a1 a2, fldC b1 b2] 0 = 3) := HN0.out (by unfold fldC; rw [if_pos c1']; decide) |>.trans (by unfold fldC; rw [if_pos c1'])
        clear c1 c1'
        obtain ⟨hc, hf⟩ := rules HB
        go_wp2_with (go_at_call 42; refine (CK.out _).mono ?_; rintro e w2 ⟨rfl, hb⟩; have HB := nxt HB hb; obtain ⟨hc, hf⟩ := rules HB; clear hb)
        go_ret
        exact ⟨by rw [EX.out]; rfl, done H1.out HB⟩
    · have hm3 : m = 3 := by omega
      subst hm3
      have EX : Hid (nzF [fldC k1 k2, fldC a1 a2, fldC b1 b2] 0 = 0) := HN.out
      go_wp2_with fail
      go_ret
      exact ⟨by rw [EX.out]; rfl, done H1.out HB⟩
end Go.Proofs.Ytepfpmagppckeaa

/- Contracts of value.And and value.or, over this seat's translation: what each returns, for every two values. Conditions: none. -/
import Derived.Test.YtepfpmagppckeaaVals2
import Derived.Test.YtepfpmagppckeaaKin
namespace Go.Proofs.Ytepfpmagppckeaa
open Go.ChangeShapes Go.WideShapes Go.ChangeAt Go.RowKit
set_option linter.unusedVariables false
set_option linter.unusedSimpArgs false

/-- is a value false? true? -/
def isF (k n : Int) : Bool := k == 2 && n == 0
def isT (k n : Int) : Bool := k == 2 && n == 1
/-- what value.And and value.or say -/
def andK (k1 n1 k2 n2 : Int) : Int := if isF k1 n1 || isF k2 n2 then 2 else if isT k1 n1 && isT k2 n2 then 2 else 0
def andN (k1 n1 k2 n2 : Int) : Int := if isF k1 n1 || isF k2 n2 then 0 else if isT k1 n1 && isT k2 n2 then 1 else 0
def orK (k1 n1 k2 n2 : Int) : Int := if isT k1 n1 || isT k2 n2 then 2 else if isF k1 n1 && isF k2 n2 then 2 else 0
def orN (k1 n1 k2 n2 : Int) : Int := if isT k1 n1 || isT k2 n2 then 1 else 0

attribute [local go_sem ↓] eql_value neq_value

theorem w3_below (w : World) (a b c : Obj) : Below w.heap.size w (((w.alloc a).alloc b).alloc c) := ((((Below.refl _ _).alloc (Nat.le_refl _) _).alloc (by simp) _).alloc (by simp; omega) _)

/-- the end: a result is stored into its own block -/
theorem ended {w W0 wx : World} {g : Nat} (h : Hid (Below W0.heap.size W0 wx)) (h0 : Below w.heap.size w W0) (x y : Value) (hg : w.heap.size ≤ g := by omega) : Below w.heap.size w ((wx.setCell ⟨g, 0, none⟩ x).setCell ⟨g, 1, none⟩ y) :=
  ((done h0 h).setCell (p := ⟨g, 0, none⟩) hg x).setCell (p := ⟨g, 1, none⟩) hg y

theorem truth_bel (b : Bool) (w : World) :
    Calls Try.prog 32 #[.bool b] w fun e w' => e = .returned (.agg #[.int .i64 2, .int .i64 (if b then 1 else 0)]) ∧ Below w.heap.size w w' :=
  (truth_any b w).mono fun e w' ⟨h1, h2⟩ => ⟨h1, by rw [h2]; exact (Below.refl _ _).alloc (Nat.le_refl _) _⟩

set_option maxHeartbeats 400000 in
theorem and_1 (k1 n1 k2 n2 : Int) (w : World) (q1F : isF k1 n1 = true) :
    Calls Try.prog 55 #[.agg #[.int .i64 k1, .int .i64 n1], .agg #[.int .i64 k2, .int .i64 n2]] w fun e w' => e = .returned (.agg #[.int .i64 2, .int .i64 0]) ∧ Below w.heap.size w w' := by
  have HB : Hid (Below (((w.alloc (.cells #[.int .i64 k1, .int .i64 n1] 35)).alloc (.cells #[.int .i64 k2, .int .i64 n2] 35)).alloc (.cells #[.int .i64 0, .int .i64 0] 35)).heap.size (((w.alloc (.cells #[.int .i64 k1, .int .i64 n1] 35)).alloc (.cells #[.int .i64 k2, .int .i64 n2] 35)).alloc (.cells #[.int .i64 0, .int .i64 0] 35)) (((w.alloc (.cells #[.int .i64 k1, .int .i64 n1] 35)).alloc (.cells #[.int .i64 k2, .int .i64 n2] 35)).alloc (.cells #[.int .i64 0, .int .i64 0] 35))) := Below.refl _ _
  have kn := kin_some (((w.alloc (.cells #[.int .i64 k1, .int .i64 n1] 35)).alloc (.cells #[.int .i64 k2, .int .i64 n2] 35)).alloc (.cells #[.int .i64 0, .int .i64 0] 35))
  have kr := kin_rules (((w.alloc (.cells #[.int .i64 k1, .int .i64 n1] 35)).alloc (.cells #[.int .i64 k2, .int .i64 n2] 35)).alloc (.cells #[.int .i64 0, .int .i64 0] 35))
  obtain ⟨kc, kf⟩ := kr
  have g1F : (k1 == 2 && n1 == 0) = true := q1F; clear q1F
  go_enter Try.func55, Try.ntmps55
  go_wp2
  refine wp_region_kin HB (by kernel_rfl) (by kernel_rfl) ?_
  repeat (go_big_quiet_step ((go_at_call 32; exact kin_of (truth_bel _ _))))
  refine wpQuiet_nil ?_
  rintro _ ⟨p, rfl⟩
  have HB : Hid _ := p.h
  go_wp2_with (first | (go_at_call 32; refine (truth_bel _ _).mono ?_; rintro e w1 ⟨rfl, hb⟩; have HB := nxt HB hb; obtain ⟨hc, hf⟩ := rules HB; clear hb) | (go_at_call 34; refine (null_b _).mono ?_; rintro e w1 ⟨rfl, hb⟩; have HB := nxt HB hb; obtain ⟨hc, hf⟩ := rules HB; clear hb))
  exact bodyPost_ret (v := .agg #[.int .i64 2, .int .i64 0]) (by simp [results, Try.results55, go_sem, hc, hf]) rfl ⟨rfl, ended HB (w3_below _ _ _ _) _ _⟩

set_option maxHeartbeats 400000 in
theorem and_2 (k1 n1 k2 n2 : Int) (w : World) (q1F : isF k1 n1 = false) (q2F : isF k2 n2 = true) :
    Calls Try.prog 55 #[.agg #[.int .i64 k1, .int .i64 n1], .agg #[.int .i64 k2, .int .i64 n2]] w fun e w' => e = .returned (.agg #[.int .i64 2, .int .i64 0]) ∧ Below w.heap.size w w' := by
  have HB : Hid (Below (((w.alloc (.cells #[.int .i64 k1, .int .i64 n1] 35)).alloc (.cells #[.int .i64 k2, .int .i64 n2] 35)).alloc (.cells #[.int .i64 0, .int .i64 0] 35)).heap.size (((w.alloc (.cells #[.int .i64 k1, .int .i64 n1] 35)).alloc (.cells #[.int .i64 k2, .int .i64 n2] 35)).alloc (.cells #[.int .i64 0, .int .i64 0] 35)) (((w.alloc (.cells #[.int .i64 k1, .int .i64 n1] 35)).alloc (.cells #[.int .i64 k2, .int .i64 n2] 35)).alloc (.cells #[.int .i64 0, .int .i64 0] 35))) := Below.refl _ _
  have kn := kin_some (((w.alloc (.cells #[.int .i64 k1, .int .i64 n1] 35)).alloc (.cells #[.int .i64 k2, .int .i64 n2] 35)).alloc (.cells #[.int .i64 0, .int .i64 0] 35))
  have kr := kin_rules (((w.alloc (.cells #[.int .i64 k1, .int .i64 n1] 35)).alloc (.cells #[.int .i64 k2, .int .i64 n2] 35)).alloc (.cells #[.int .i64 0, .int .i64 0] 35))
  obtain ⟨kc, kf⟩ := kr
  have g1F : (k1 == 2 && n1 == 0) = false := q1F; clear q1F
  have g2F : (k2 == 2 && n2 == 0) = true := q2F; clear q2F
  go_enter Try.func55, Try.ntmps55
  go_wp2
  refine wp_region_kin HB (by kernel_rfl) (by kernel_rfl) ?_
  repeat (go_big_quiet_step ((go_at_call 32; exact kin_of (truth_bel _ _))))
  refine wpQuiet_nil ?_
  rintro _ ⟨p, rfl⟩
  have HB : Hid _ := p.h
  go_wp2_with (first | (go_at_call 32; refine (truth_bel _ _).mono ?_; rintro e w1 ⟨rfl, hb⟩; have HB := nxt HB hb; obtain ⟨hc, hf⟩ := rules HB; clear hb) | (go_at_call 34; refine (null_b _).mono ?_; rintro e w1 ⟨rfl, hb⟩; have HB := nxt HB hb; obtain ⟨hc, hf⟩ := rules HB; clear hb))
  exact bodyPost_ret (v := .agg #[.int .i64 2, .int .i64 0]) (by simp [results, Try.results55, go_sem, hc, hf]) rfl ⟨rfl, ended HB (w3_below _ _ _ _) _ _⟩

set_option maxHeartbeats 400000 in
theorem and_3 (k1 n1 k2 n2 : Int) (w : World) (q1F : isF k1 n1 = false) (q2F : isF k2 n2 = false) (q1T : isT k1 n1 = true) (q2T : isT k2 n2 = true) :
    Calls Try.prog 55 #[.agg #[.int .i64 k1, .int .i64 n1], .agg #[.int .i64 k2, .int .i64 n2]] w fun e w' => e = .returned (.agg #[.int .i64 2, .int .i64 1]) ∧ Below w.heap.size w w' := by
  have HB : Hid (Below (((w.alloc (.cells #[.int .i64 k1, .int .i64 n1] 35)).alloc (.cells #[.int .i64 k2, .int .i64 n2] 35)).alloc (.cells #[.int .i64 0, .int .i64 0] 35)).heap.size (((w.alloc (.cells #[.int .i64 k1, .int .i64 n1] 35)).alloc (.cells #[.int .i64 k2, .int .i64 n2] 35)).alloc (.cells #[.int .i64 0, .int .i64 0] 35)) (((w.alloc (.cells #[.int .i64 k1, .int .i64 n1] 35)).alloc (.cells #[.int .i64 k2, .int .i64 n2] 35)).alloc (.cells #[.int .i64 0, .int .i64 0] 35))) := Below.refl _ _
  have kn := kin_some (((w.alloc (.cells #[.int .i64 k1, .int .i64 n1] 35)).alloc (.cells #[.int .i64 k2, .int .i64 n2] 35)).alloc (.cells #[.int .i64 0, .int .i64 0] 35))
  have kr := kin_rules (((w.alloc (.cells #[.int .i64 k1, .int .i64 n1] 35)).alloc (.cells #[.int .i64 k2, .int .i64 n2] 35)).alloc (.cells #[.int .i64 0, .int .i64 0] 35))
  obtain ⟨kc, kf⟩ := kr
  have g1F : (k1 == 2 && n1 == 0) = false := q1F; clear q1F
  have g2F : (k2 == 2 && n2 == 0) = false := q2F; clear q2F
  have g1T : (k1 == 2 && n1 == 1) = true := q1T; clear q1T
  have g2T : (k2 == 2 && n2 == 1) = true := q2T; clear q2T
  go_enter Try.func55, Try.ntmps55
  go_wp2
  refine wp_region_kin HB (by kernel_rfl) (by kernel_rfl) ?_
  repeat (go_big_quiet_step ((go_at_call 32; exact kin_of (truth_bel _ _))))
  refine wpQuiet_nil ?_
  rintro _ ⟨p, rfl⟩
  have HB : Hid _ := p.h
  go_wp2
  refine wp_region_kin HB (by kernel_rfl) (by kernel_rfl) ?_
  repeat (go_big_quiet_step ((go_at_call 32; exact kin_of (truth_bel _ _))))
  refine wpQuiet_nil ?_
  rintro _ ⟨p, rfl⟩
  have HB : Hid _ := p.h
  go_wp2_with (first | (go_at_call 32; refine (truth_bel _ _).mono ?_; rintro e w1 ⟨rfl, hb⟩; have HB := nxt HB hb; obtain ⟨hc, hf⟩ := rules HB; clear hb) | (go_at_call 34; refine (null_b _).mono ?_; rintro e w1 ⟨rfl, hb⟩; have HB := nxt HB hb; obtain ⟨hc, hf⟩ := rules HB; clear hb))
  exact bodyPost_ret (v := .agg #[.int .i64 2, .int .i64 1]) (by simp [results, Try.results55, go_sem, hc, hf]) rfl ⟨rfl, ended HB (w3_below _ _ _ _) _ _⟩

set_option maxHeartbeats 400000 in
theorem and_4 (k1 n1 k2 n2 : Int) (w : World) (q1F : isF k1 n1 = false) (q2F : isF k2 n2 = false) (q1T : isT k1 n1 = true) (q2T : isT k2 n2 = false) :
    Calls Try.prog 55 #[.agg #[.int .i64 k1, .int .i64 n1], .agg #[.int .i64 k2, .int .i64 n2]] w fun e w' => e = .returned (.agg #[.int .i64 0, .int .i64 0]) ∧ Below w.heap.size w w' := by
  have HB : Hid (Below (((w.alloc (.cells #[.int .i64 k1, .int .i64 n1] 35)).alloc (.cells #[.int .i64 k2, .int .i64 n2] 35)).alloc (.cells #[.int .i64 0, .int .i64 0] 35)).heap.size (((w.alloc (.cells #[.int .i64 k1, .int .i64 n1] 35)).alloc (.cells #[.int .i64 k2, .int .i64 n2] 35)).alloc (.cells #[.int .i64 0, .int .i64 0] 35)) (((w.alloc (.cells #[.int .i64 k1, .int .i64 n1] 35)).alloc (.cells #[.int .i64 k2, .int .i64 n2] 35)).alloc (.cells #[.int .i64 0, .int .i64 0] 35))) := Below.refl _ _
  have kn := kin_some (((w.alloc (.cells #[.int .i64 k1, .int .i64 n1] 35)).alloc (.cells #[.int .i64 k2, .int .i64 n2] 35)).alloc (.cells #[.int .i64 0, .int .i64 0] 35))
  have kr := kin_rules (((w.alloc (.cells #[.int .i64 k1, .int .i64 n1] 35)).alloc (.cells #[.int .i64 k2, .int .i64 n2] 35)).alloc (.cells #[.int .i64 0, .int .i64 0] 35))
  obtain ⟨kc, kf⟩ := kr
  have g1F : (k1 == 2 && n1 == 0) = false := q1F; clear q1F
  have g2F : (k2 == 2 && n2 == 0) = false := q2F; clear q2F
  have g1T : (k1 == 2 && n1 == 1) = true := q1T; clear q1T
  have g2T : (k2 == 2 && n2 == 1) = false := q2T; clear q2T
  go_enter Try.func55, Try.ntmps55
  go_wp2
  refine wp_region_kin HB (by kernel_rfl) (by kernel_rfl) ?_
  repeat (go_big_quiet_step ((go_at_call 32; exact kin_of (truth_bel _ _))))
  refine wpQuiet_nil ?_
  rintro _ ⟨p, rfl⟩
  have HB : Hid _ := p.h
  go_wp2
  refine wp_region_kin HB (by kernel_rfl) (by kernel_rfl) ?_
  repeat (go_big_quiet_step ((go_at_call 32; exact kin_of (truth_bel _ _))))
  refine wpQuiet_nil ?_
  rintro _ ⟨p, rfl⟩
  have HB : Hid _ := p.h
  go_wp2_with (first | (go_at_call 32; refine (truth_bel _ _).mono ?_; rintro e w1 ⟨rfl, hb⟩; have HB := nxt HB hb; obtain ⟨hc, hf⟩ := rules HB; clear hb) | (go_at_call 34; refine (null_b _).mono ?_; rintro e w1 ⟨rfl, hb⟩; have HB := nxt HB hb; obtain ⟨hc, hf⟩ := rules HB; clear hb))
  exact bodyPost_ret (v := .agg #[.int .i64 0, .int .i64 0]) (by simp [results, Try.results55, go_sem, hc, hf]) rfl ⟨rfl, ended HB (w3_below _ _ _ _) _ _⟩

set_option maxHeartbeats 400000 in
theorem and_5 (k1 n1 k2 n2 : Int) (w : World) (q1F : isF k1 n1 = false) (q2F : isF k2 n2 = false) (q1T : isT k1 n1 = false) :
    Calls Try.prog 55 #[.agg #[.int .i64 k1, .int .i64 n1], .agg #[.int .i64 k2, .int .i64 n2]] w fun e w' => e = .returned (.agg #[.int .i64 0, .int .i64 0]) ∧ Below w.heap.size w w' := by
  have HB : Hid (Below (((w.alloc (.cells #[.int .i64 k1, .int .i64 n1] 35)).alloc (.cells #[.int .i64 k2, .int .i64 n2] 35)).alloc (.cells #[.int .i64 0, .int .i64 0] 35)).heap.size (((w.alloc (.cells #[.int .i64 k1, .int .i64 n1] 35)).alloc (.cells #[.int .i64 k2, .int .i64 n2] 35)).alloc (.cells #[.int .i64 0, .int .i64 0] 35)) (((w.alloc (.cells #[.int .i64 k1, .int .i64 n1] 35)).alloc (.cells #[.int .i64 k2, .int .i64 n2] 35)).alloc (.cells #[.int .i64 0, .int .i64 0] 35))) := Below.refl _ _
  have kn := kin_some (((w.alloc (.cells #[.int .i64 k1, .int .i64 n1] 35)).alloc (.cells #[.int .i64 k2, .int .i64 n2] 35)).alloc (.cells #[.int .i64 0, .int .i64 0] 35))
  have kr := kin_rules (((w.alloc (.cells #[.int .i64 k1, .int .i64 n1] 35)).alloc (.cells #[.int .i64 k2, .int .i64 n2] 35)).alloc (.cells #[.int .i64 0, .int .i64 0] 35))
  obtain ⟨kc, kf⟩ := kr
  have g1F : (k1 == 2 && n1 == 0) = false := q1F; clear q1F
  have g2F : (k2 == 2 && n2 == 0) = false := q2F; clear q2F
  have g1T : (k1 == 2 && n1 == 1) = false := q1T; clear q1T
  go_enter Try.func55, Try.ntmps55
  go_wp2
  refine wp_region_kin HB (by kernel_rfl) (by kernel_rfl) ?_
  repeat (go_big_quiet_step ((go_at_call 32; exact kin_of (truth_bel _ _))))
  refine wpQuiet_nil ?_
  rintro _ ⟨p, rfl⟩
  have HB : Hid _ := p.h
  go_wp2
  refine wp_region_kin HB (by kernel_rfl) (by kernel_rfl) ?_
  repeat (go_big_quiet_step ((go_at_call 32; exact kin_of (truth_bel _ _))))
  refine wpQuiet_nil ?_
  rintro _ ⟨p, rfl⟩
  have HB : Hid _ := p.h
  go_wp2_with (first | (go_at_call 32; refine (truth_bel _ _).mono ?_; rintro e w1 ⟨rfl, hb⟩; have HB := nxt HB hb; obtain ⟨hc, hf⟩ := rules HB; clear hb) | (go_at_call 34; refine (null_b _).mono ?_; rintro e w1 ⟨rfl, hb⟩; have HB := nxt HB hb; obtain ⟨hc, hf⟩ := rules HB; clear hb))
  exact bodyPost_ret (v := .agg #[.int .i64 0, .int .i64 0]) (by simp [results, Try.results55, go_sem, hc, hf]) rfl ⟨rfl, ended HB (w3_below _ _ _ _) _ _⟩

theorem and_any (k1 n1 k2 n2 : Int) (w : World) :
    Calls Try.prog 55 #[.agg #[.int .i64 k1, .int .i64 n1], .agg #[.int .i64 k2, .int .i64 n2]] w fun e w' => e = .returned (.agg #[.int .i64 (andK k1 n1 k2 n2), .int .i64 (andN k1 n1 k2 n2)]) ∧ Below w.heap.size w w' := by
  cases h1 : isF k1 n1
  · cases h2 : isF k2 n2
    · cases h3 : isT k1 n1
      · have e1 : andK k1 n1 k2 n2 = 0 := by simp [andK, h1, h2, h3]
        have e2 : andN k1 n1 k2 n2 = 0 := by simp [andN, h1, h2, h3]
        rw [e1, e2]; exact and_5 k1 n1 k2 n2 w h1 h2 h3
      · cases h4 : isT k2 n2
        · have e1 : andK k1 n1 k2 n2 = 0 := by simp [andK, h1, h2, h3, h4]
          have e2 : andN k1 n1 k2 n2 = 0 := by simp [andN, h1, h2, h3, h4]
          rw [e1, e2]; exact and_4 k1 n1 k2 n2 w h1 h2 h3 h4
        · have e1 : andK k1 n1 k2 n2 = 2 := by simp [andK, h1, h2, h3, h4]
          have e2 : andN k1 n1 k2 n2 = 1 := by simp [andN, h1, h2, h3, h4]
          rw [e1, e2]; exact and_3 k1 n1 k2 n2 w h1 h2 h3 h4
    · have e1 : andK k1 n1 k2 n2 = 2 := by simp [andK, h2]
      have e2 : andN k1 n1 k2 n2 = 0 := by simp [andN, h2]
      rw [e1, e2]; exact and_2 k1 n1 k2 n2 w h1 h2
  · have e1 : andK k1 n1 k2 n2 = 2 := by simp [andK, h1]
    have e2 : andN k1 n1 k2 n2 = 0 := by simp [andN, h1]
    rw [e1, e2]; exact and_1 k1 n1 k2 n2 w h1

set_option maxHeartbeats 400000 in
theorem or_1 (k1 n1 k2 n2 : Int) (w : World) (q1T : isT k1 n1 = true) :
    Calls Try.prog 56 #[.agg #[.int .i64 k1, .int .i64 n1], .agg #[.int .i64 k2, .int .i64 n2]] w fun e w' => e = .returned (.agg #[.int .i64 2, .int .i64 1]) ∧ Below w.heap.size w w' := by
  have HB : Hid (Below (((w.alloc (.cells #[.int .i64 k1, .int .i64 n1] 35)).alloc (.cells #[.int .i64 k2, .int .i64 n2] 35)).alloc (.cells #[.int .i64 0, .int .i64 0] 35)).heap.size (((w.alloc (.cells #[.int .i64 k1, .int .i64 n1] 35)).alloc (.cells #[.int .i64 k2, .int .i64 n2] 35)).alloc (.cells #[.int .i64 0, .int .i64 0] 35)) (((w.alloc (.cells #[.int .i64 k1, .int .i64 n1] 35)).alloc (.cells #[.int .i64 k2, .int .i64 n2] 35)).alloc (.cells #[.int .i64 0, .int .i64 0] 35))) := Below.refl _ _
  have kn := kin_some (((w.alloc (.cells #[.int .i64 k1, .int .i64 n1] 35)).alloc (.cells #[.int .i64 k2, .int .i64 n2] 35)).alloc (.cells #[.int .i64 0, .int .i64 0] 35))
  have kr := kin_rules (((w.alloc (.cells #[.int .i64 k1, .int .i64 n1] 35)).alloc (.cells #[.int .i64 k2, .int .i64 n2] 35)).alloc (.cells #[.int .i64 0, .int .i64 0] 35))
  obtain ⟨kc, kf⟩ := kr
  have g1T : (k1 == 2 && n1 == 1) = true := q1T; clear q1T
  go_enter Try.func56, Try.ntmps56
  go_wp2
  refine wp_region_kin HB (by kernel_rfl) (by kernel_rfl) ?_
  repeat (go_big_quiet_step ((go_at_call 32; exact kin_of (truth_bel _ _))))
  refine wpQuiet_nil ?_
  rintro _ ⟨p, rfl⟩
  have HB : Hid _ := p.h
  go_wp2_with (first | (go_at_call 32; refine (truth_bel _ _).mono ?_; rintro e w1 ⟨rfl, hb⟩; have HB := nxt HB hb; obtain ⟨hc, hf⟩ := rules HB; clear hb) | (go_at_call 34; refine (null_b _).mono ?_; rintro e w1 ⟨rfl, hb⟩; have HB := nxt HB hb; obtain ⟨hc, hf⟩ := rules HB; clear hb))
  exact bodyPost_ret (v := .agg #[.int .i64 2, .int .i64 1]) (by simp [results, Try.results56, go_sem, hc, hf]) rfl ⟨rfl, ended HB (w3_below _ _ _ _) _ _⟩

set_option maxHeartbeats 400000 in
theorem or_2 (k1 n1 k2 n2 : Int) (w : World) (q1T : isT k1 n1 = false) (q2T : isT k2 n2 = true) :
    Calls Try.prog 56 #[.agg #[.int .i64 k1, .int .i64 n1], .agg #[.int .i64 k2, .int .i64 n2]] w fun e w' => e = .returned (.agg #[.int .i64 2, .int .i64 1]) ∧ Below w.heap.size w w' := by
  have HB : Hid (Below (((w.alloc (.cells #[.int .i64 k1, .int .i64 n1] 35)).alloc (.cells #[.int .i64 k2, .int .i64 n2] 35)).alloc (.cells #[.int .i64 0, .int .i64 0] 35)).heap.size (((w.alloc (.cells #[.int .i64 k1, .int .i64 n1] 35)).alloc (.cells #[.int .i64 k2, .int .i64 n2] 35)).alloc (.cells #[.int .i64 0, .int .i64 0] 35)) (((w.alloc (.cells #[.int .i64 k1, .int .i64 n1] 35)).alloc (.cells #[.int .i64 k2, .int .i64 n2] 35)).alloc (.cells #[.int .i64 0, .int .i64 0] 35))) := Below.refl _ _
  have kn := kin_some (((w.alloc (.cells #[.int .i64 k1, .int .i64 n1] 35)).alloc (.cells #[.int .i64 k2, .int .i64 n2] 35)).alloc (.cells #[.int .i64 0, .int .i64 0] 35))
  have kr := kin_rules (((w.alloc (.cells #[.int .i64 k1, .int .i64 n1] 35)).alloc (.cells #[.int .i64 k2, .int .i64 n2] 35)).alloc (.cells #[.int .i64 0, .int .i64 0] 35))
  obtain ⟨kc, kf⟩ := kr
  have g1T : (k1 == 2 && n1 == 1) = false := q1T; clear q1T
  have g2T : (k2 == 2 && n2 == 1) = true := q2T; clear q2T
  go_enter Try.func56, Try.ntmps56
  go_wp2
  refine wp_region_kin HB (by kernel_rfl) (by kernel_rfl) ?_
  repeat (go_big_quiet_step ((go_at_call 32; exact kin_of (truth_bel _ _))))
  refine wpQuiet_nil ?_
  rintro _ ⟨p, rfl⟩
  have HB : Hid _ := p.h
  go_wp2_with (first | (go_at_call 32; refine (truth_bel _ _).mono ?_; rintro e w1 ⟨rfl, hb⟩; have HB := nxt HB hb; obtain ⟨hc, hf⟩ := rules HB; clear hb) | (go_at_call 34; refine (null_b _).mono ?_; rintro e w1 ⟨rfl, hb⟩; have HB := nxt HB hb; obtain ⟨hc, hf⟩ := rules HB; clear hb))
  exact bodyPost_ret (v := .agg #[.int .i64 2, .int .i64 1]) (by simp [results, Try.results56, go_sem, hc, hf]) rfl ⟨rfl, ended HB (w3_below _ _ _ _) _ _⟩

set_option maxHeartbeats 400000 in
theorem or_3 (k1 n1 k2 n2 : Int) (w : World) (q1T : isT k1 n1 = false) (q2T : isT k2 n2 = false) (q1F : isF k1 n1 = true) (q2F : isF k2 n2 = true) :
    Calls Try.prog 56 #[.agg #[.int .i64 k1, .int .i64 n1], .agg #[.int .i64 k2, .int .i64 n2]] w fun e w' => e = .returned (.agg #[.int .i64 2, .int .i64 0]) ∧ Below w.heap.size w w' := by
  have HB : Hid (Below (((w.alloc (.cells #[.int .i64 k1, .int .i64 n1] 35)).alloc (.cells #[.int .i64 k2, .int .i64 n2] 35)).alloc (.cells #[.int .i64 0, .int .i64 0] 35)).heap.size (((w.alloc (.cells #[.int .i64 k1, .int .i64 n1] 35)).alloc (.cells #[.int .i64 k2, .int .i64 n2] 35)).alloc (.cells #[.int .i64 0, .int .i64 0] 35)) (((w.alloc (.cells #[.int .i64 k1, .int .i64 n1] 35)).alloc (.cells #[.int .i64 k2, .int .i64 n2] 35)).alloc (.cells #[.int .i64 0, .int .i64 0] 35))) := Below.refl _ _
  have kn := kin_some (((w.alloc (.cells #[.int .i64 k1, .int .i64 n1] 35)).alloc (.cells #[.int .i64 k2, .int .i64 n2] 35)).alloc (.cells #[.int .i64 0, .int .i64 0] 35))
  have kr := kin_rules (((w.alloc (.cells #[.int .i64 k1, .int .i64 n1] 35)).alloc (.cells #[.int .i64 k2, .int .i64 n2] 35)).alloc (.cells #[.int .i64 0, .int .i64 0] 35))
  obtain ⟨kc, kf⟩ := kr
  have g1T : (k1 == 2 && n1 == 1) = false := q1T; clear q1T
  have g2T : (k2 == 2 && n2 == 1) = false := q2T; clear q2T
  have g1F : (k1 == 2 && n1 == 0) = true := q1F; clear q1F
  have g2F : (k2 == 2 && n2 == 0) = true := q2F; clear q2F
  go_enter Try.func56, Try.ntmps56
  go_wp2
  refine wp_region_kin HB (by kernel_rfl) (by kernel_rfl) ?_
  repeat (go_big_quiet_step ((go_at_call 32; exact kin_of (truth_bel _ _))))
  refine wpQuiet_nil ?_
  rintro _ ⟨p, rfl⟩
  have HB : Hid _ := p.h
  go_wp2
  refine wp_region_kin HB (by kernel_rfl) (by kernel_rfl) ?_
  repeat (go_big_quiet_step ((go_at_call 32; exact kin_of (truth_bel _ _))))
  refine wpQuiet_nil ?_
  rintro _ ⟨p, rfl⟩
  have HB : Hid _ := p.h
  go_wp2_with (first | (go_at_call 32; refine (truth_bel _ _).mono ?_; rintro e w1 ⟨rfl, hb⟩; have HB := nxt HB hb; obtain ⟨hc, hf⟩ := rules HB; clear hb) | (go_at_call 34; refine (null_b _).mono ?_; rintro e w1 ⟨rfl, hb⟩; have HB := nxt HB hb; obtain ⟨hc, hf⟩ := rules HB; clear hb))
  exact bodyPost_ret (v := .agg #[.int .i64 2, .int .i64 0]) (by simp [results, Try.results56, go_sem, hc, hf]) rfl ⟨rfl, ended HB (w3_below _ _ _ _) _ _⟩

set_option maxHeartbeats 400000 in
theorem or_4 (k1 n1 k2 n2 : Int) (w : World) (q1T : isT k1 n1 = false) (q2T : isT k2 n2 = false) (q1F : isF k1 n1 = true) (q2F : isF k2 n2 = false) :
    Calls Try.prog 56 #[.agg #[.int .i64 k1, .int .i64 n1], .agg #[.int .i64 k2, .int .i64 n2]] w fun e w' => e = .returned (.agg #[.int .i64 0, .int .i64 0]) ∧ Below w.heap.size w w' := by
  have HB : Hid (Below (((w.alloc (.cells #[.int .i64 k1, .int .i64 n1] 35)).alloc (.cells #[.int .i64 k2, .int .i64 n2] 35)).alloc (.cells #[.int .i64 0, .int .i64 0] 35)).heap.size (((w.alloc (.cells #[.int .i64 k1, .int .i64 n1] 35)).alloc (.cells #[.int .i64 k2, .int .i64 n2] 35)).alloc (.cells #[.int .i64 0, .int .i64 0] 35)) (((w.alloc (.cells #[.int .i64 k1, .int .i64 n1] 35)).alloc (.cells #[.int .i64 k2, .int .i64 n2] 35)).alloc (.cells #[.int .i64 0, .int .i64 0] 35))) := Below.refl _ _
  have kn := kin_some (((w.alloc (.cells #[.int .i64 k1, .int .i64 n1] 35)).alloc (.cells #[.int .i64 k2, .int .i64 n2] 35)).alloc (.cells #[.int .i64 0, .int .i64 0] 35))
  have kr := kin_rules (((w.alloc (.cells #[.int .i64 k1, .int .i64 n1] 35)).alloc (.cells #[.int .i64 k2, .int .i64 n2] 35)).alloc (.cells #[.int .i64 0, .int .i64 0] 35))
  obtain ⟨kc, kf⟩ := kr
  have g1T : (k1 == 2 && n1 == 1) = false := q1T; clear q1T
  have g2T : (k2 == 2 && n2 == 1) = false := q2T; clear q2T
  have g1F : (k1 == 2 && n1 == 0) = true := q1F; clear q1F
  have g2F : (k2 == 2 && n2 == 0) = false := q2F; clear q2F
  go_enter Try.func56, Try.ntmps56
  go_wp2
  refine wp_region_kin HB (by kernel_rfl) (by kernel_rfl) ?_
  repeat (go_big_quiet_step ((go_at_call 32; exact kin_of (truth_bel _ _))))
  refine wpQuiet_nil ?_
  rintro _ ⟨p, rfl⟩
  have HB : Hid _ := p.h
  go_wp2
  refine wp_region_kin HB (by kernel_rfl) (by kernel_rfl) ?_
  repeat (go_big_quiet_step ((go_at_call 32; exact kin_of (truth_bel _ _))))
  refine wpQuiet_nil ?_
  rintro _ ⟨p, rfl⟩
  have HB : Hid _ := p.h
  go_wp2_with (first | (go_at_call 32; refine (truth_bel _ _).mono ?_; rintro e w1 ⟨rfl, hb⟩; have HB := nxt HB hb; obtain ⟨hc, hf⟩ := rules HB; clear hb) | (go_at_call 34; refine (null_b _).mono ?_; rintro e w1 ⟨rfl, hb⟩; have HB := nxt HB hb; obtain ⟨hc, hf⟩ := rules HB; clear hb))
  exact bodyPost_ret (v := .agg #[.int .i64 0, .int .i64 0]) (by simp [results, Try.results56, go_sem, hc, hf]) rfl ⟨rfl, ended HB (w3_below _ _ _ _) _ _⟩

set_option maxHeartbeats 400000 in
theorem or_5 (k1 n1 k2 n2 : Int) (w : World) (q1T : isT k1 n1 = false) (q2T : isT k2 n2 = false) (q1F : isF k1 n1 = false) :
    Calls Try.prog 56 #[.agg #[.int .i64 k1, .int .i64 n1], .agg #[.int .i64 k2, .int .i64 n2]] w fun e w' => e = .returned (.agg #[.int .i64 0, .int .i64 0]) ∧ Below w.heap.size w w' := by
  have HB : Hid (Below (((w.alloc (.cells #[.int .i64 k1, .int .i64 n1] 35)).alloc (.cells #[.int .i64 k2, .int .i64 n2] 35)).alloc (.cells #[.int .i64 0, .int .i64 0] 35)).heap.size (((w.alloc (.cells #[.int .i64 k1, .int .i64 n1] 35)).alloc (.cells #[.int .i64 k2, .int .i64 n2] 35)).alloc (.cells #[.int .i64 0, .int .i64 0] 35)) (((w.alloc (.cells #[.int .i64 k1, .int .i64 n1] 35)).alloc (.cells #[.int .i64 k2, .int .i64 n2] 35)).alloc (.cells #[.int .i64 0, .int .i64 0] 35))) := Below.refl _ _
  have kn := kin_some (((w.alloc (.cells #[.int .i64 k1, .int .i64 n1] 35)).alloc (.cells #[.int .i64 k2, .int .i64 n2] 35)).alloc (.cells #[.int .i64 0, .int .i64 0] 35))
  have kr := kin_rules (((w.alloc (.cells #[.int .i64 k1, .int .i64 n1] 35)).alloc (.cells #[.int .i64 k2, .int .i64 n2] 35)).alloc (.cells #[.int .i64 0, .int .i64 0] 35))
  obtain ⟨kc, kf⟩ := kr
  have g1T : (k1 == 2 && n1 == 1) = false := q1T; clear q1T
  have g2T : (k2 == 2 && n2 == 1) = false := q2T; clear q2T
  have g1F : (k1 == 2 && n1 == 0) = false := q1F; clear q1F
  go_enter Try.func56, Try.ntmps56
  go_wp2
  refine wp_region_kin HB (by kernel_rfl) (by kernel_rfl) ?_
  repeat (go_big_quiet_step ((go_at_call 32; exact kin_of (truth_bel _ _))))
  refine wpQuiet_nil ?_
  rintro _ ⟨p, rfl⟩
  have HB : Hid _ := p.h
  go_wp2
  refine wp_region_kin HB (by kernel_rfl) (by kernel_rfl) ?_
  repeat (go_big_quiet_step ((go_at_call 32; exact kin_of (truth_bel _ _))))
  refine wpQuiet_nil ?_
  rintro _ ⟨p, rfl⟩
  have HB : Hid _ := p.h
  go_wp2_with (first | (go_at_call 32; refine (truth_bel _ _).mono ?_; rintro e w1 ⟨rfl, hb⟩; have HB := nxt HB hb; obtain ⟨hc, hf⟩ := rules HB; clear hb) | (go_at_call 34; refine (null_b _).mono ?_; rintro e w1 ⟨rfl, hb⟩; have HB := nxt HB hb; obtain ⟨hc, hf⟩ := rules HB; clear hb))
  exact bodyPost_ret (v := .agg #[.int .i64 0, .int .i64 0]) (by simp [results, Try.results56, go_sem, hc, hf]) rfl ⟨rfl, ended HB (w3_below _ _ _ _) _ _⟩

theorem or_any (k1 n1 k2 n2 : Int) (w : World) :
    Calls Try.prog 56 #[.agg #[.int .i64 k1, .int .i64 n1], .agg #[.int .i64 k2, .int .i64 n2]] w fun e w' => e = .returned (.agg #[.int .i64 (orK k1 n1 k2 n2), .int .i64 (orN k1 n1 k2 n2)]) ∧ Below w.heap.size w w' := by
  cases h1 : isT k1 n1
  · cases h2 : isT k2 n2
    · cases h3 : isF k1 n1
      · have e1 : orK k1 n1 k2 n2 = 0 := by simp [orK, h1, h2, h3]
        have e2 : orN k1 n1 k2 n2 = 0 := by simp [orN, h1, h2, h3]
        rw [e1, e2]; exact or_5 k1 n1 k2 n2 w h1 h2 h3
      · cases h4 : isF k2 n2
        · have e1 : orK k1 n1 k2 n2 = 0 := by simp [orK, h1, h2, h3, h4]
          have e2 : orN k1 n1 k2 n2 = 0 := by simp [orN, h1, h2, h3, h4]
          rw [e1, e2]; exact or_4 k1 n1 k2 n2 w h1 h2 h3 h4
        · have e1 : orK k1 n1 k2 n2 = 2 := by simp [orK, h1, h2, h3, h4]
          have e2 : orN k1 n1 k2 n2 = 0 := by simp [orN, h1, h2, h3, h4]
          rw [e1, e2]; exact or_3 k1 n1 k2 n2 w h1 h2 h3 h4
    · have e1 : orK k1 n1 k2 n2 = 2 := by simp [orK, h2]
      have e2 : orN k1 n1 k2 n2 = 1 := by simp [orN, h2]
      rw [e1, e2]; exact or_2 k1 n1 k2 n2 w h1 h2
  · have e1 : orK k1 n1 k2 n2 = 2 := by simp [orK, h1]
    have e2 : orN k1 n1 k2 n2 = 1 := by simp [orN, h1]
    rw [e1, e2]; exact or_1 k1 n1 k2 n2 w h1

end Go.Proofs.Ytepfpmagppckeaa

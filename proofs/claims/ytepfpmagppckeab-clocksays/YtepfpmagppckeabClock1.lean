/- The contracts of package clock, over this seat's translation. Conditions: as named. -/
import Derived.Test.YtepfpmagppckeabBase
import Derived.Test.YtepfpmagppckeabHeld
import Derived.Test.YtepfpmagppckeabClockPure
namespace Go.Proofs.Ytepfpmagppckeab
open Go.ChangeShapes Go.WideShapes Go.ChangeAt Go.RowKit
set_option linter.unusedVariables false
set_option linter.unusedSimpArgs false

/-- a row of numbers -/
abbrev RowC (w : World) (v : Value) (G : List Int) : Prop := RowG w v 1 G.length (G.map (Value.int .i64))

theorem rowC_at {w : World} {v : Value} {G : List Int} (h : RowC w v G) (h0 : 0 < G.length) :
    ∃ g off cap, v = .slice (some ⟨g, off, none⟩) G.length cap ∧ G.length ≤ cap ∧ cap ≤ maxLen ∧ g < w.heap.size ∧ ∀ i, i < G.length → w.cell? ⟨g, off + i, none⟩ = some (.int .i64 (G.getD i 0)) := by
  rcases h.2 with ⟨-, hn⟩ | ⟨g, off, cap, rfl, h1, h2, h3, h4⟩
  · omega
  · refine ⟨g, off, cap, rfl, h1, h2, h3, fun i hi => ?_⟩
    rw [h4 i (by omega)]
    simp [List.getD, hi]

theorem has_any (n : Nat) (ao : Option Addr) (cap : Nat) (p : Int) (w : World) (hn : n ≤ 1000) :
    Calls Try.prog 50 #[.agg #[.slice ao n cap], .int .i64 p] w fun e w' => e = .returned (.bool (decide (0 ≤ p) && decide (p < (n : Int)))) ∧ Below w.heap.size w w' := by
  by_cases h1 : 0 ≤ p
  · have d1 : decide (0 ≤ p) = true := by simp [h1]
    rw [d1]
    by_cases h2 : p < (n : Int)
    · have d2 : decide (p < (n : Int)) = true := by simp [h2]
      rw [d2]
      go_enter Try.func50, Try.ntmps50
      go_wp2_with fail
      go_ret
      exact ⟨rfl, (Below.refl _ _).alloc (Nat.le_refl _) _⟩
    · have d2 : decide (p < (n : Int)) = false := by simp; omega
      rw [d2]
      go_enter Try.func50, Try.ntmps50
      go_wp2_with fail
      go_ret
      exact ⟨rfl, (Below.refl _ _).alloc (Nat.le_refl _) _⟩
  · have d1 : decide (0 ≤ p) = false := by simp; omega
    rw [d1]
    go_enter Try.func50, Try.ntmps50
    go_wp2_with fail
    go_ret
    exact ⟨rfl, (Below.refl _ _).alloc (Nat.le_refl _) _⟩

/-- how far it is known of a part -/
def partV (x delay : Int) : Value := if x ≤ -1 then .tuple #[.int .i64 0, .bool false] else .tuple #[.int .i64 (RowKit.wrap64 (x - delay)), .bool true]

set_option maxRecDepth 100000 in
theorem part_any (G : List Int) (v : Value) (p : Nat) (delay : Int) (w : World) (hl : G.length ≤ 1000) (hp : p < G.length) (hr : RowC w v G) :
    Calls Try.prog 21 #[.agg #[v], .int .i64 p, .int .i64 delay] w fun e w' => e = .returned (partV (G.getD p 0) delay) ∧ Below w.heap.size w w' := by
  obtain ⟨g, off, cap, rfl, l1, l2, l3, hc0⟩ := rowC_at hr (by omega)
  have cp := hc0 p hp
  have HA := hidE (fun w => has_any G.length (some ⟨g, off, none⟩) cap p w hl)
  have d1 : decide (0 ≤ (p : Int)) = true := by simp
  have d2 : decide ((p : Int) < (G.length : Int)) = true := by simp; omega
  rw [d1, d2] at HA
  clear hc0 hr d1 d2
  unfold maxLen at l2
  generalize G.getD p 0 = x at *
  have H1 : Hid (Below w.heap.size w (w.alloc (.cells #[.slice (some ⟨g, off, none⟩) G.length cap] 29))) := (Below.refl _ _).alloc (Nat.le_refl _) _
  simp only [Bool.and_self] at HA
  unfold partV
  by_cases hx : x ≤ -1
  · rw [if_pos hx]
    have dx : decide (x ≤ -1) = true := by simp [hx]
    go_enter Try.func21, Try.ntmps21
    go_wp2_with fail
    refine (HA.out _).mono ?_
    rintro e w1 ⟨rfl, hb⟩
    have HB := hidE hb
    clear hb
    obtain ⟨hc, hf⟩ := rules HB
    go_wp2_with fail
    go_ret2
    exact ⟨rfl, done H1.out HB⟩
  · rw [if_neg hx]
    have dx : decide (x ≤ -1) = false := by simp; omega
    go_enter Try.func21, Try.ntmps21
    go_wp2_with fail
    refine (HA.out _).mono ?_
    rintro e w1 ⟨rfl, hb⟩
    have HB := hidE hb
    clear hb
    obtain ⟨hc, hf⟩ := rules HB
    go_wp2_with fail
    go_ret2
    exact ⟨rfl, done H1.out HB⟩

set_option maxRecDepth 100000 in
theorem all_any (G : List Int) (v : Value) (delay : Int) (w : World) (hl : G.length ≤ 1000) (h0 : 0 < G.length) (hr : RowC w v G) :
    Calls Try.prog 19 #[.agg #[v], .int .i64 delay] w fun e w' => e = .returned (partV (minOf G) delay) ∧ Below w.heap.size w w' := by
  obtain ⟨g, off, cap, rfl, l1, l2, l3, hc0⟩ := rowC_at hr h0
  have HC := hidE hc0
  have HR := hidE hr
  clear hc0 hr
  unfold maxLen at l2
  have H1 : Hid (Below w.heap.size w (w.alloc (.cells #[.slice (some ⟨g, off, none⟩) G.length cap] 29))) := (Below.refl _ _).alloc (Nat.le_refl _) _
  go_enter Try.func19, Try.ntmps19
  go_wp2_with fail
  have CX : Hid (∀ i, i < G.length → (w.alloc (.cells #[.slice (some ⟨g, off, none⟩) G.length cap] 29)).cell? ⟨g, off + i, none⟩ = some (.int .i64 (G.getD i 0))) := fun i hi => (H1.out.cell (p := ⟨g, off + i, none⟩) l3).trans (HC.out i hi)
  have cc : (w.alloc (.cells #[.slice (some ⟨g, off, none⟩) G.length cap] 29)).cell? ⟨w.heap.size, 0, none⟩ = some (.slice (some ⟨g, off, none⟩) G.length cap) := by go_simp
  have lc : w.heap.size < (w.alloc (.cells #[.slice (some ⟨g, off, none⟩) G.length cap] 29)).heap.size := by simp
  have RX := hidE (rowG_below HR.out H1.out)
  generalize (w.alloc (.cells #[.slice (some ⟨g, off, none⟩) G.length cap] 29)) = wx at *
  have lg : g < wx.heap.size := by omega
  clear HC HR
  go_loopw [6, 11] (fun ls i wr => ∃ (j n : Nat), j < G.length ∧ n ≤ G.length ∧ ls = .int .i64 j ∧ i = .int .i64 n ∧ Hid (∀ m, m < n → G.getD j 0 ≤ G.getD m 0) ∧ Hid (Below wx.heap.size wx wr)) (fun _ i _ => G.length - (intOf i).toNat)
  case atStart => exact ⟨0, 0, h0, Nat.zero_le _, rfl, rfl, fun m hm => absurd hm (by omega), Below.refl _ _⟩
  case round =>
    obtain ⟨j, n, hj, hn, rfl, rfl, HM, HB⟩ := hrel
    by_cases hlt : n < G.length
    · have cx := CX.out n hlt
      have cy := CX.out j hj
      have kn := kin_some wx
      obtain ⟨kc, kf⟩ := kin_rules wx
      by_cases hxy : G.getD n 0 < G.getD j 0
      · have HM2 : Hid (∀ m, m < n + 1 → G.getD n 0 ≤ G.getD m 0) := fun m hm => by
          by_cases h9 : m = n
          · subst h9; exact Int.le_refl _
          · have := HM.out m (by omega); omega
        have HM3 : Hid (∀ m, m < n + 1 → G.getD n 0 ≤ G.getD m 0) := HM2
        obtain ⟨x, hx⟩ : ∃ x, G.getD n 0 = x := ⟨_, rfl⟩
        obtain ⟨y, hy⟩ : ∃ y, G.getD j 0 = y := ⟨_, rfl⟩
        rw [hx] at cx hxy
        rw [hy] at cy hxy
        clear hx hy
        have dxy : decide (x < y) = true := by simp [hxy]
        go_wp2_with fail
        refine wp_region_kin HB (by kernel_rfl) (by kernel_rfl) ?_
        repeat (go_big_quiet_step (fail))
        refine wpQuiet_nil ?_
        rintro _ ⟨pk, rfl⟩
        have HP := hidE pk.h
        generalize pk.w = wp at *
        clear kc kf kn
        go_wp2_with fail
        go_roundw
        case rel => exact ⟨n, n + 1, hlt, by omega, rfl, by go_num, HM3.out, HP⟩
        case measure => simp [intOf]; omega
      · have HM2 : Hid (∀ m, m < n + 1 → G.getD j 0 ≤ G.getD m 0) := fun m hm => by
          by_cases h9 : m = n
          · subst h9; omega
          · exact HM.out m (by omega)
        have HM3 : Hid (∀ m, m < n + 1 → G.getD j 0 ≤ G.getD m 0) := HM2
        obtain ⟨x, hx⟩ : ∃ x, G.getD n 0 = x := ⟨_, rfl⟩
        obtain ⟨y, hy⟩ : ∃ y, G.getD j 0 = y := ⟨_, rfl⟩
        rw [hx] at cx hxy
        rw [hy] at cy hxy
        clear hx hy
        have dxy : decide (x < y) = false := by simp; omega
        go_wp2_with fail
        refine wp_region_kin HB (by kernel_rfl) (by kernel_rfl) ?_
        repeat (go_big_quiet_step (fail))
        refine wpQuiet_nil ?_
        rintro _ ⟨pk, rfl⟩
        have HP := hidE pk.h
        generalize pk.w = wp at *
        clear kc kf kn
        go_wp2_with fail
        go_roundw
        case rel => exact ⟨j, n + 1, hj, by omega, rfl, by go_num, HM3.out, HP⟩
        case measure => simp [intOf]; omega
    · have hnl : n = G.length := by omega
      subst hnl
      have EM := hidE (min_is hj HM.out)
      have PA := hidE (fun w' hb => part_any G _ j delay w' hl hj (rowG_below RX.out hb))
      rw [← EM.out] at PA
      clear HM
      generalize hV : partV (minOf G) delay = V at *
      obtain ⟨q1, q2, rfl⟩ : ∃ q1 q2, V = .tuple #[.int .i64 q1, .bool q2] := by
        rw [← hV]
        unfold partV
        split
        · exact ⟨_, _, rfl⟩
        · exact ⟨_, _, rfl⟩
      have HV := hidE hV
      clear hV EM
      obtain ⟨hc, hf⟩ := rules HB
      go_wp2_with fail
      refine (PA.out _ HB.out).mono ?_
      rintro e w1 ⟨rfl, hb⟩
      have HB := nxt HB hb
      clear hb
      go_wp2_with fail
      go_ret2
      exact ⟨by rw [HV.out]; rfl, done H1.out HB⟩
end Go.Proofs.Ytepfpmagppckeab

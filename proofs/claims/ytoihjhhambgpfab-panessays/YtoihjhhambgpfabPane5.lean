/- The contracts of sort.Find at panes' closure, and of a table's find, over this seat's translation. Conditions: as named. -/
import Derived.Test.YtoihjhhambgpfabPane4
namespace Go.Proofs.Ytoihjhhambgpfab
open Go.ChangeShapes Go.WideShapes Go.ChangeAt Go.RowKit
set_option linter.unusedVariables false
set_option linter.unusedSimpArgs false

set_option maxRecDepth 100000 in
set_option maxHeartbeats 2000000 in
theorem sfind_any (n : Nat) (c : Nat → Int) (p1 p2 p3 : Value) (w : World) (hn : n ≤ 1000) (hmon : ∀ p q, p ≤ q → q < n → c p ≤ 0 → c q ≤ 0)
    (hc : ∀ q, q < n → ∀ w', Below w.heap.size w w' → Calls Try.prog 69 #[.int .i64 q, p1, p2, p3] w' fun e w'' => e = .returned (.int .i64 (c q)) ∧ Below w'.heap.size w' w'') :
    Calls Try.prog 68 #[.int .i64 n, .func (.func 69) #[] #[p1, p2, p3]] w fun e w' => ∃ i : Nat, i ≤ n ∧ (∀ q, q < i → 0 < c q) ∧ (∀ q, i ≤ q → q < n → c q ≤ 0) ∧ e = .returned (.tuple #[.int .i64 i, .bool (decide (i < n) && (c i == 0))]) ∧ Below w.heap.size w w' := by
  have HC := hidE hc
  have HM := hidE hmon
  clear hc hmon
  go_enter Try.func68, Try.ntmps68
  go_wp2_with fail
  go_loopw [4, 6] (fun i j wr => ∃ a b : Nat, a ≤ b ∧ b ≤ n ∧ i = .int .i64 a ∧ j = .int .i64 b ∧ Hid (∀ q, q < a → 0 < c q) ∧ Hid (∀ q, b ≤ q → q < n → c q ≤ 0) ∧ Hid (Below w.heap.size w wr)) (fun i j _ => (intOf j).toNat - (intOf i).toNat)
  case atStart => exact ⟨0, n, Nat.zero_le _, Nat.le_refl _, rfl, rfl, fun q hq => absurd hq (by omega), fun q h1 h2 => absurd h1 (by omega), Below.refl _ _⟩
  case round =>
    obtain ⟨a, b, hab, hbn, rfl, rfl, HA, HZ, HB⟩ := hrel
    by_cases hlt : a < b
    · obtain ⟨h, hh, h1, h2⟩ : ∃ h : Nat, ((a : Int) + b) / 2 = (h : Int) ∧ a ≤ h ∧ h < b := ⟨(a + b) / 2, by omega, by omega, by omega⟩
      have HH := hidE (HC.out h (by omega))
      have MO := hidE (fun q (hq : h ≤ q) (hq2 : q < n) => HM.out h q hq hq2)
      have MP : Hid (∀ q, q < h → 0 < c h → 0 < c q) := fun q hq h9 => by
        by_cases h8 : 0 < c q
        · exact h8
        · have := HM.out q h (by omega) (by omega) (by omega)
          omega
      have CE : Hid (∀ q, q = h → c q = c h) := fun q e => by rw [e]
      generalize c h = x at *
      go_wp2_with fail
      refine (HH.out _ HB.out).mono ?_
      rintro e w2 ⟨rfl, hb⟩
      have HB2 := nxt HB hb
      clear hb HB
      by_cases hx : 0 < x
      · have dx : decide (0 < x) = true := by simp [hx]
        go_wp2_with fail
        go_roundw
        case rel => exact ⟨h + 1, b, by omega, hbn, by go_num, rfl, fun q hq => by
            by_cases h9 : q = h
            · rw [CE.out q h9]; exact hx
            · exact MP.out q (by omega) hx, HZ, HB2⟩
        case measure => simp [intOf]; omega
      · have dx : decide (0 < x) = false := by simp; omega
        go_wp2_with fail
        go_roundw
        case rel => exact ⟨a, h, h1, by omega, rfl, by go_num, HA, fun q hq hq2 => MO.out q hq hq2 (by omega), HB2⟩
        case measure => simp [intOf]; omega
    · have hae : a = b := by omega
      subst hae
      by_cases hq : a < n
      · have HH := hidE (HC.out a hq)
        have dn : decide ((a : Int) < (n : Int)) = true := by simp; omega
        have RE : Hid ((decide (a < n) && (c a == 0)) = (c a == 0)) := by
          show _ = _
          simp [hq]
        go_wp2_with fail
        refine (HH.out _ HB.out).mono ?_
        rintro e w2 ⟨rfl, hb⟩
        have HB2 := nxt HB hb
        clear hb HB
        go_wp2_with fail
        refine bodyPost_ret (v := .tuple #[.int .i64 a, .bool (c a == 0)]) (by simp [results, Try.results68, go_sem]) rfl ⟨a, hbn, HA.out, HZ.out, by rw [RE.out], HB2.out⟩
      · have dn : decide ((a : Int) < (n : Int)) = false := by simp; omega
        have RE : Hid ((decide (a < n) && (c a == 0)) = false) := by
          show _ = _
          simp [hq]
        go_wp2_with fail
        refine bodyPost_ret (v := .tuple #[.int .i64 a, .bool false]) (by simp [results, Try.results68, go_sem]) rfl ⟨a, hbn, HA.out, HZ.out, by rw [RE.out], HB.out⟩

/-- one window and key are before another -/
def lexlt (a1 a2 a3 b1 b2 b3 : Int) : Prop := a1 < b1 ∨ (a1 = b1 ∧ (a2 < b2 ∨ (a2 = b2 ∧ a3 < b3)))
theorem pcmp_pos (st k n : Int) (p : Pn) : 0 < pcmp st k n p ↔ lexlt p.st p.k p.n st k n := by
  unfold pcmp orI vcmp cmpI lexlt
  repeat' split
  all_goals omega
theorem pcmp_zero (st k n : Int) (p : Pn) : pcmp st k n p = 0 ↔ (p.st = st ∧ p.k = k ∧ p.n = n) := by
  unfold pcmp orI vcmp cmpI
  repeat' split
  all_goals omega
/-- panes that rise by their windows, then their keys -/
def Rise (ps : List Pn) : Prop := ps.Pairwise fun p q => lexlt p.st p.k p.n q.st q.k q.n
/-- how a window and a key stand to the pane at a place -/
def cAt (st k n : Int) (ps : List Pn) (q : Nat) : Int := (ps[q]?.map (pcmp st k n)).getD 0
theorem cAt_is (st k n : Int) (ps : List Pn) (q : Nat) (h : q < ps.length) : cAt st k n ps q = pcmp st k n ps[q] := by
  unfold cAt
  rw [List.getElem?_eq_getElem h]
  rfl
theorem cAt_mono {ps : List Pn} (hr : Rise ps) (st k n : Int) (p q : Nat) (hpq : p ≤ q) (hq : q < ps.length) (h : cAt st k n ps p ≤ 0) : cAt st k n ps q ≤ 0 := by
  by_cases e : p = q
  · subst e
    exact h
  · rw [cAt_is _ _ _ _ _ (by omega)] at h ⊢
    have h1 := List.pairwise_iff_getElem.1 hr p q (by omega) hq (by omega)
    have h2 := pcmp_pos st k n ps[p]
    have h3 := pcmp_pos st k n (ps[q]'hq)
    refine Int.not_lt.1 fun h9 => absurd (h2.2 ?_) (by omega)
    have h4 := h3.1 h9
    unfold lexlt at h1 h4 ⊢
    omega

set_option maxRecDepth 100000 in
set_option maxHeartbeats 2000000 in
theorem find_any (ps : List Pn) (ao : Option Addr) (cap : Nat) (st k n : Int) (w : World) (hr : RowG w (.slice ao ps.length cap) 5 ps.length (rowOf cellsPn ps)) (hl : ps.length ≤ 1000) (hR : Rise ps) :
    Calls Try.prog 57 #[.agg #[.slice ao ps.length cap], .int .i64 st, .agg #[.int .i64 k, .int .i64 n]] w fun e w' => ∃ i : Nat, i ≤ ps.length ∧ (∀ q, q < i → 0 < cAt st k n ps q) ∧ (∀ q, i ≤ q → q < ps.length → cAt st k n ps q ≤ 0) ∧ e = .returned (.tuple #[.int .i64 i, .bool (decide (i < ps.length) && (cAt st k n ps i == 0))]) ∧ Below w.heap.size w w' := by
  have hA1 := (Below.refl w.heap.size w).alloc (Nat.le_refl _) (.cells #[.slice ao ps.length cap] 86)
  have hA2 := hA1.alloc hA1.size (.cells #[.int .i64 st] 3)
  have hA := hA2.alloc hA2.size (.cells #[.int .i64 k, .int .i64 n] 59)
  have B0 := blk_below (blk_below (blk_alloc w [.slice ao ps.length cap] 86 (by simp)) ((Below.refl _ _).alloc (Nat.le_refl _) (.cells #[.int .i64 st] 3)) (by simp)) ((Below.refl _ _).alloc (Nat.le_refl _) (.cells #[.int .i64 k, .int .i64 n] 59)) (by simp; omega)
  have B1 := blk_below (blk_alloc (w.alloc (.cells #[.slice ao ps.length cap] 86)) [.int .i64 st] 3 (by simp)) ((Below.refl _ _).alloc (Nat.le_refl _) (.cells #[.int .i64 k, .int .i64 n] 59)) (by simp)
  have B2 := blk_alloc ((w.alloc (.cells #[.slice ao ps.length cap] 86)).alloc (.cells #[.int .i64 st] 3)) [.int .i64 k, .int .i64 n] 59 (by simp)
  have RR := rowG_below hr hA
  rw [show (w.alloc (.cells #[.slice ao ps.length cap] 86)).heap.size = w.heap.size + 1 from by simp] at B1
  rw [show ((w.alloc (.cells #[.slice ao ps.length cap] 86)).alloc (.cells #[.int .i64 st] 3)).heap.size = w.heap.size + 1 + 1 from by simp] at B2
  have FC := hidE (sfind_any ps.length (cAt st k n ps) (.pointer (some ⟨w.heap.size + 1, 0, none⟩)) (.pointer (some ⟨w.heap.size, 0, none⟩)) (.pointer (some ⟨w.heap.size + 1 + 1, 0, none⟩)) _ hl (fun p q h1 h2 h3 => cAt_mono hR st k n p q h1 h2 h3)
    (fun q hq w' hb => by
      rw [cAt_is _ _ _ _ _ hq]
      have D0 := blk_below B0 hb B0.lt
      have D1 := blk_below B1 hb B1.lt
      have D2 := blk_below B2 hb B2.lt
      exact find1_any q ps ao cap st k n _ _ _ w' (D0.c 0 (by simp)) (D1.c 0 (by simp)) (D2.c 0 (by simp)) (D2.c 1 (by simp)) D0.lt D1.lt D2.lt (rowG_below RR hb) hq hl))
  have HA := hidE hA
  have d3 : (((w.alloc (.cells #[.slice ao ps.length cap] 86)).alloc (.cells #[.int .i64 st] 3)).alloc (.cells #[.int .i64 k, .int .i64 n] 59)).cell? ⟨w.heap.size, 0, none⟩ = some (.slice ao ps.length cap) := B0.c 0 (by simp)
  clear hA1 hA2 hA B0 B1 B2 RR hr hR
  go_enter Try.func57, Try.ntmps57
  go_wp2_with fail
  refine FC.out.mono ?_
  rintro e w1 ⟨i, h1, h2, h3, rfl, hb⟩
  have HB := nxt HA hb
  have R := hidE (And.intro h2 h3)
  clear hb h2 h3 HA FC d3
  go_wp2_with fail
  exact bodyPost_ret (v := .tuple #[.int .i64 i, .bool (decide (i < ps.length) && (cAt st k n ps i == 0))]) (by simp [results, Try.results57, go_sem]) rfl ⟨i, h1, R.out.1, R.out.2, rfl, HB.out⟩
end Go.Proofs.Ytoihjhhambgpfab

/- The contract of penstockref.Eval at the two lists that ValueSays makes, over this seat's translation. Conditions: the list's cells. -/
import Derived.Test.YticgfdcgobdlmaaDoorRefDo
import Derived.Test.YticgfdcgobdlmaaDoorParseBad
namespace Go.Proofs.YticgfdcgobdlmaaDoor
open Go.RowKit
set_option linter.unusedVariables false
set_option linter.unusedSimpArgs false

/-- the event that has nothing -/
def noEv : Value := .agg #[.int .i64 0, .int .i64 0, .int .i64 0, .int .i64 0, .int .i64 0, .int .i64 0, .int .i64 0]

/-- a list of two nodes lies there: a constant, and one over it -/
def TwoAt (w : World) (g : Nat) (op k n : Int) : Prop :=
  w.cell? ⟨g, 0, none⟩ = some (.int .i64 1) ∧ w.cell? ⟨g, 1, none⟩ = some (.int .i64 0) ∧ w.cell? ⟨g, 2, none⟩ = some (.int .i64 0) ∧ w.cell? ⟨g, 3, none⟩ = some (.int .i64 0) ∧ w.cell? ⟨g, 4, none⟩ = some (.int .i64 k) ∧ w.cell? ⟨g, 5, none⟩ = some (.int .i64 n) ∧
  w.cell? ⟨g, 6, none⟩ = some (.int .i64 op) ∧ w.cell? ⟨g, 7, none⟩ = some (.int .i64 0) ∧ w.cell? ⟨g, 8, none⟩ = some (.int .i64 0) ∧ w.cell? ⟨g, 9, none⟩ = some (.int .i64 0) ∧ w.cell? ⟨g, 10, none⟩ = some (.int .i64 0) ∧ w.cell? ⟨g, 11, none⟩ = some (.int .i64 0)

/-- what the reading of the constant leaves -/
def atW (w : World) (k n : Int) : World := ((w.alloc (.cells #[.int .i64 0, .int .i64 0, .int .i64 0, .int .i64 0, .int .i64 0, .int .i64 0, .int .i64 0] 52)).alloc (.cells #[.int .i64 k, .int .i64 n] 32)).alloc (.cells #[.int .i64 1, .int .i64 0, .int .i64 0, .int .i64 0, .int .i64 k, .int .i64 n] 44)

theorem atW_below (w : World) (k n : Int) : Below w.heap.size w (atW w k n) := w3_below w _ _ _

set_option maxRecDepth 100000 in
theorem at_const (w : World) (g : Nat) (op k n : Int) (hg : g < w.heap.size) (h : TwoAt w g op k n) :
    Calls Tryd.prog 34 #[.slice (some ⟨g, 0, none⟩) 2 2, .int .i64 0, noEv] w fun e w' => e = .returned (.agg #[.int .i64 k, .int .i64 n]) ∧ Below w.heap.size w w' := by
  obtain ⟨c0, c1, c2, c3, c4, c5, c6, c7, c8, c9, c10, c11⟩ := h
  unfold noEv
  go_enter Tryd.func34, Tryd.ntmps34
  go_wp2_with fail
  exact bodyPost_ret (v := .agg #[.int .i64 k, .int .i64 n]) (by simp [results, Tryd.results34, go_sem]) rfl ⟨rfl, atW_below w k n⟩

theorem TwoAt.below {w w' : World} {g : Nat} {op k n : Int} (h : TwoAt w g op k n) (hg : g < w.heap.size) (hb : Below w.heap.size w w') : TwoAt w' g op k n := by
  have hc := fun o => hb.cell (p := ⟨g, o, none⟩) hg
  unfold TwoAt
  simp only [hc]
  exact h

/-- the world in which the node's own part is read -/
def atV (w : World) (op : Int) : World := ((w.alloc (.cells #[.int .i64 0, .int .i64 0, .int .i64 0, .int .i64 0, .int .i64 0, .int .i64 0, .int .i64 0] 52)).alloc (.cells #[.int .i64 0, .int .i64 0] 32)).alloc (.cells #[.int .i64 op, .int .i64 0, .int .i64 0, .int .i64 0, .int .i64 0, .int .i64 0] 44)

theorem atV_below (w : World) (op : Int) : Below w.heap.size w (atV w op) := w3_below w _ _ _

set_option maxRecDepth 100000 in
theorem at_not1 (w : World) (g : Nat) (k n : Int) (hg : g < w.heap.size) (h : TwoAt w g 4 k n) (hk : (k == 2) = true) :
    Calls Tryd.prog 34 #[.slice (some ⟨g, 0, none⟩) 2 2, .int .i64 1, noEv] w fun e w' => e = .returned (.agg #[.int .i64 2, .int .i64 (b01 (n == 0))]) ∧ Below w.heap.size w w' := by
  have HC := hidT (at_const (atV w 4) g 4 k n (by unfold atV; simp only [World.size_alloc]; omega) (h.below hg (atV_below w 4)))
  have HW := hidT (atV_below w 4)
  obtain ⟨c0, c1, c2, c3, c4, c5, c6, c7, c8, c9, c10, c11⟩ := h
  unfold noEv at HC ⊢
  unfold atV at HC HW
  go_enter Tryd.func34, Tryd.ntmps34
  go_wp2_with fail
  refine HC.out.mono ?_
  rintro e w1 ⟨rfl, hb⟩
  have HB := hidT hb
  clear hb
  obtain ⟨hc, hf⟩ := rules HB
  go_wp2_with (go_at_call 14; refine (rtruth_any _ _).mono ?_; rintro e w2 ⟨rfl, hb⟩; have HB := nxt2 HB hb; obtain ⟨hc, hf⟩ := rules HB; clear hb)
  exact bodyPost_ret (v := .agg #[.int .i64 2, .int .i64 (b01 (n == 0))]) (by simp [results, Tryd.results34, go_sem, hc, hf]) rfl ⟨rfl, ended HB HW.out _ _⟩

set_option maxRecDepth 100000 in
theorem at_not0 (w : World) (g : Nat) (k n : Int) (hg : g < w.heap.size) (h : TwoAt w g 4 k n) (hk : (k == 2) = false) :
    Calls Tryd.prog 34 #[.slice (some ⟨g, 0, none⟩) 2 2, .int .i64 1, noEv] w fun e w' => e = .returned (.agg #[.int .i64 0, .int .i64 0]) ∧ Below w.heap.size w w' := by
  have HC := hidT (at_const (atV w 4) g 4 k n (by unfold atV; simp only [World.size_alloc]; omega) (h.below hg (atV_below w 4)))
  have HW := hidT (atV_below w 4)
  obtain ⟨c0, c1, c2, c3, c4, c5, c6, c7, c8, c9, c10, c11⟩ := h
  unfold noEv at HC ⊢
  unfold atV at HC HW
  go_enter Tryd.func34, Tryd.ntmps34
  go_wp2_with fail
  refine HC.out.mono ?_
  rintro e w1 ⟨rfl, hb⟩
  have HB := hidT hb
  clear hb
  have hsz : w.heap.size + 3 ≤ w1.heap.size := by
    have := HB.out.size
    simp only [World.size_alloc] at this
    omega
  obtain ⟨hc, hf⟩ := rules HB
  obtain ⟨hc2, hf2⟩ := rules (nxta HB (.cells #[.int .i64 k, .int .i64 n] 32))
  go_wp2_with (fail)
  have y0 : (w1.alloc (.cells #[.int .i64 k, .int .i64 n] 32)).cell? ⟨w.heap.size + 1, 0, none⟩ = some (.int .i64 0) := by rw [hc2 _ _ (by simp only [World.size_alloc]; omega)]; go_simp
  have y1 : (w1.alloc (.cells #[.int .i64 k, .int .i64 n] 32)).cell? ⟨w.heap.size + 1, 1, none⟩ = some (.int .i64 0) := by rw [hc2 _ _ (by simp only [World.size_alloc]; omega)]; go_simp
  exact bodyPost_ret (v := .agg #[.int .i64 0, .int .i64 0]) (by simp [results, Tryd.results34, go_sem, y0, y1]) rfl ⟨rfl, ended (nxta HB (.cells #[.int .i64 k, .int .i64 n] 32)) HW.out _ _⟩

set_option maxRecDepth 100000 in
theorem at_neg1 (w : World) (g : Nat) (k n : Int) (hg : g < w.heap.size) (h : TwoAt w g 3 k n) (hk : (k == 1) = true) (b1 : -1000000000 ≤ n) (b2 : n ≤ 1000000000) :
    Calls Tryd.prog 34 #[.slice (some ⟨g, 0, none⟩) 2 2, .int .i64 1, noEv] w fun e w' => e = .returned (.agg #[.int .i64 (numK (-n)), .int .i64 (numN (-n))]) ∧ Below w.heap.size w w' := by
  have HC := hidT (at_const (atV w 3) g 3 k n (by unfold atV; simp only [World.size_alloc]; omega) (h.below hg (atV_below w 3)))
  have HW := hidT (atV_below w 3)
  obtain ⟨c0, c1, c2, c3, c4, c5, c6, c7, c8, c9, c10, c11⟩ := h
  unfold noEv at HC ⊢
  unfold atV at HC HW
  go_enter Tryd.func34, Tryd.ntmps34
  go_wp2_with fail
  refine HC.out.mono ?_
  rintro e w1 ⟨rfl, hb⟩
  have HB := hidT hb
  clear hb
  obtain ⟨hc, hf⟩ := rules HB
  go_wp2_with (go_at_call 12; refine (rnum_any _ _).mono ?_; rintro e w2 ⟨rfl, hb⟩; have HB := nxt2 HB hb; obtain ⟨hc, hf⟩ := rules HB; clear hb)
  exact bodyPost_ret (v := .agg #[.int .i64 (numK (-n)), .int .i64 (numN (-n))]) (by simp [results, Tryd.results34, go_sem, hc, hf]) rfl ⟨rfl, ended HB HW.out _ _⟩

set_option maxRecDepth 100000 in
theorem at_neg0 (w : World) (g : Nat) (k n : Int) (hg : g < w.heap.size) (h : TwoAt w g 3 k n) (hk : (k == 1) = false) :
    Calls Tryd.prog 34 #[.slice (some ⟨g, 0, none⟩) 2 2, .int .i64 1, noEv] w fun e w' => e = .returned (.agg #[.int .i64 0, .int .i64 0]) ∧ Below w.heap.size w w' := by
  have HC := hidT (at_const (atV w 3) g 3 k n (by unfold atV; simp only [World.size_alloc]; omega) (h.below hg (atV_below w 3)))
  have HW := hidT (atV_below w 3)
  obtain ⟨c0, c1, c2, c3, c4, c5, c6, c7, c8, c9, c10, c11⟩ := h
  unfold noEv at HC ⊢
  unfold atV at HC HW
  go_enter Tryd.func34, Tryd.ntmps34
  go_wp2_with fail
  refine HC.out.mono ?_
  rintro e w1 ⟨rfl, hb⟩
  have HB := hidT hb
  clear hb
  have hsz : w.heap.size + 3 ≤ w1.heap.size := by
    have := HB.out.size
    simp only [World.size_alloc] at this
    omega
  obtain ⟨hc, hf⟩ := rules HB
  obtain ⟨hc2, hf2⟩ := rules (nxta HB (.cells #[.int .i64 k, .int .i64 n] 32))
  go_wp2_with (fail)
  have y0 : (w1.alloc (.cells #[.int .i64 k, .int .i64 n] 32)).cell? ⟨w.heap.size + 1, 0, none⟩ = some (.int .i64 0) := by rw [hc2 _ _ (by simp only [World.size_alloc]; omega)]; go_simp
  have y1 : (w1.alloc (.cells #[.int .i64 k, .int .i64 n] 32)).cell? ⟨w.heap.size + 1, 1, none⟩ = some (.int .i64 0) := by rw [hc2 _ _ (by simp only [World.size_alloc]; omega)]; go_simp
  exact bodyPost_ret (v := .agg #[.int .i64 0, .int .i64 0]) (by simp [results, Tryd.results34, go_sem, y0, y1]) rfl ⟨rfl, ended (nxta HB (.cells #[.int .i64 k, .int .i64 n] 32)) HW.out _ _⟩

theorem ev_any (w : World) (g : Nat) (op k n k1 n1 : Int) (hg : g < w.heap.size) (h : TwoAt w g op k n)
    (ha : ∀ w, g < w.heap.size → TwoAt w g op k n → Calls Tryd.prog 34 #[.slice (some ⟨g, 0, none⟩) 2 2, .int .i64 1, noEv] w fun e w' => e = .returned (.agg #[.int .i64 k1, .int .i64 n1]) ∧ Below w.heap.size w w') :
    Calls Tryd.prog 25 #[.slice (some ⟨g, 0, none⟩) 2 2, noEv] w fun e w' => e = .returned (.agg #[.int .i64 k1, .int .i64 n1]) ∧ Below w.heap.size w w' := by
  have hw0 : Below w.heap.size w ((w.alloc (.cells #[.int .i64 0, .int .i64 0, .int .i64 0, .int .i64 0, .int .i64 0, .int .i64 0, .int .i64 0] 52)).alloc (.cells #[.int .i64 0, .int .i64 0] 32)) := ((Below.refl _ _).alloc (Nat.le_refl _) _).alloc (by simp) _
  have HA := hidT (ha ((w.alloc (.cells #[.int .i64 0, .int .i64 0, .int .i64 0, .int .i64 0, .int .i64 0, .int .i64 0, .int .i64 0] 52)).alloc (.cells #[.int .i64 0, .int .i64 0] 32)) (by simp only [World.size_alloc]; omega) (h.below hg hw0))
  have HW := hidT hw0
  clear ha h hw0
  unfold noEv at HA ⊢
  go_enter Tryd.func25, Tryd.ntmps25
  go_wp2_with fail
  refine HA.out.mono ?_
  rintro e w1 ⟨rfl, hb⟩
  have HB := hidT hb
  clear hb
  obtain ⟨hc, hf⟩ := rules HB
  go_wp2_with fail
  exact bodyPost_ret (v := .agg #[.int .i64 k1, .int .i64 n1]) (by simp [results, Tryd.results25, go_sem, hc, hf]) rfl ⟨rfl, ended HB HW.out _ _⟩

theorem ev_not (w : World) (g : Nat) (k n : Int) (hg : g < w.heap.size) (h : TwoAt w g 4 k n) :
    Calls Tryd.prog 25 #[.slice (some ⟨g, 0, none⟩) 2 2, noEv] w fun e w' => e = .returned (.agg #[.int .i64 (notV k n).1, .int .i64 (notV k n).2]) ∧ Below w.heap.size w w' := by
  unfold notV
  by_cases hk : k = 2
  · rw [if_pos hk]
    exact ev_any w g 4 k n _ _ hg h fun w hg h => at_not1 w g k n hg h (by simp [hk])
  · rw [if_neg hk]
    exact ev_any w g 4 k n _ _ hg h fun w hg h => at_not0 w g k n hg h (by simp [hk])

theorem ev_neg (w : World) (g : Nat) (k n : Int) (b1 : -1000000000 ≤ n) (b2 : n ≤ 1000000000) (hg : g < w.heap.size) (h : TwoAt w g 3 k n) :
    Calls Tryd.prog 25 #[.slice (some ⟨g, 0, none⟩) 2 2, noEv] w fun e w' => e = .returned (.agg #[.int .i64 (negV k n).1, .int .i64 (negV k n).2]) ∧ Below w.heap.size w w' := by
  unfold negV
  by_cases hk : k = 1
  · rw [if_pos hk]
    exact ev_any w g 3 k n _ _ hg h fun w hg h => at_neg1 w g k n hg h (by simp [hk]) b1 b2
  · rw [if_neg hk]
    exact ev_any w g 3 k n _ _ hg h fun w hg h => at_neg0 w g k n hg h (by simp [hk])
end Go.Proofs.YticgfdcgobdlmaaDoor

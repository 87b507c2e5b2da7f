/- The law TopLogic, proved for every three values: it returns true and changes nothing that was there. Conditions: none. -/
import Derived.Test.YticgfdcgobdlmaaVals4
import Derived.Deep.DeepCutAuto
import Derived.Deep.CutBlock
import Derived.OwnWalk
namespace Go.Proofs.Yticgfdcgobdlmaa
open Go.ChangeShapes Go.WideShapes Go.ChangeAt Go.RowKit
set_option linter.unusedVariables false
set_option linter.unusedSimpArgs false
attribute [local go_sem ↓] eql_value neq_value

/-- a value that may be, and is no number -/
def okL (k n : Int) : Prop := (k = 0 ∧ n = 0) ∨ (k = 2 ∧ n = 0) ∨ (k = 2 ∧ n = 1)


theorem okL_of (k n : Int) (h : vok k n = true) (hk : k ≠ 1) : okL k n := by
  have := of_decide_eq_true h
  unfold okL; omega
theorem l_and1 (k1 n1 k2 n2 : Int) (h1 : okL k1 n1) (h2 : okL k2 n2) : (andK k1 n1 k2 n2 == andK k2 n2 k1 n1 && andN k1 n1 k2 n2 == andN k2 n2 k1 n1) = true := by
  rcases h1 with ⟨rfl, rfl⟩ | ⟨rfl, rfl⟩ | ⟨rfl, rfl⟩ <;> rcases h2 with ⟨rfl, rfl⟩ | ⟨rfl, rfl⟩ | ⟨rfl, rfl⟩ <;> rfl
theorem l_or1 (k1 n1 k2 n2 : Int) (h1 : okL k1 n1) (h2 : okL k2 n2) : (orK k1 n1 k2 n2 == orK k2 n2 k1 n1 && orN k1 n1 k2 n2 == orN k2 n2 k1 n1) = true := by
  rcases h1 with ⟨rfl, rfl⟩ | ⟨rfl, rfl⟩ | ⟨rfl, rfl⟩ <;> rcases h2 with ⟨rfl, rfl⟩ | ⟨rfl, rfl⟩ | ⟨rfl, rfl⟩ <;> rfl
theorem l_and2 (k1 n1 k2 n2 k3 n3 : Int) (h1 : okL k1 n1) (h2 : okL k2 n2) (h3 : okL k3 n3) : (andK k1 n1 (andK k2 n2 k3 n3) (andN k2 n2 k3 n3) == andK (andK k1 n1 k2 n2) (andN k1 n1 k2 n2) k3 n3 && andN k1 n1 (andK k2 n2 k3 n3) (andN k2 n2 k3 n3) == andN (andK k1 n1 k2 n2) (andN k1 n1 k2 n2) k3 n3) = true := by
  rcases h1 with ⟨rfl, rfl⟩ | ⟨rfl, rfl⟩ | ⟨rfl, rfl⟩ <;> rcases h2 with ⟨rfl, rfl⟩ | ⟨rfl, rfl⟩ | ⟨rfl, rfl⟩ <;> rcases h3 with ⟨rfl, rfl⟩ | ⟨rfl, rfl⟩ | ⟨rfl, rfl⟩ <;> rfl
theorem l_or2 (k1 n1 k2 n2 k3 n3 : Int) (h1 : okL k1 n1) (h2 : okL k2 n2) (h3 : okL k3 n3) : (orK k1 n1 (orK k2 n2 k3 n3) (orN k2 n2 k3 n3) == orK (orK k1 n1 k2 n2) (orN k1 n1 k2 n2) k3 n3 && orN k1 n1 (orK k2 n2 k3 n3) (orN k2 n2 k3 n3) == orN (orK k1 n1 k2 n2) (orN k1 n1 k2 n2) k3 n3) = true := by
  rcases h1 with ⟨rfl, rfl⟩ | ⟨rfl, rfl⟩ | ⟨rfl, rfl⟩ <;> rcases h2 with ⟨rfl, rfl⟩ | ⟨rfl, rfl⟩ | ⟨rfl, rfl⟩ <;> rcases h3 with ⟨rfl, rfl⟩ | ⟨rfl, rfl⟩ | ⟨rfl, rfl⟩ <;> rfl
theorem l_and3 (k1 n1 : Int) (h1 : okL k1 n1) : (andK k1 n1 k1 n1 == k1 && andN k1 n1 k1 n1 == n1) = true := by
  rcases h1 with ⟨rfl, rfl⟩ | ⟨rfl, rfl⟩ | ⟨rfl, rfl⟩ <;> rfl
theorem l_or3 (k1 n1 : Int) (h1 : okL k1 n1) : (orK k1 n1 k1 n1 == k1 && orN k1 n1 k1 n1 == n1) = true := by
  rcases h1 with ⟨rfl, rfl⟩ | ⟨rfl, rfl⟩ | ⟨rfl, rfl⟩ <;> rfl
theorem l_and4 (k2 n2 k3 n3 : Int) (h2 : okL k2 n2) (h3 : okL k3 n3) (h : (andK 0 0 k3 n3 == 2) = true) : (andK k2 n2 k3 n3 == andK 0 0 k3 n3 && andN k2 n2 k3 n3 == andN 0 0 k3 n3) = true := by
  rcases h2 with ⟨rfl, rfl⟩ | ⟨rfl, rfl⟩ | ⟨rfl, rfl⟩ <;> rcases h3 with ⟨rfl, rfl⟩ | ⟨rfl, rfl⟩ | ⟨rfl, rfl⟩ <;> first | rfl | exact absurd h (by decide)
theorem l_or4 (k2 n2 k3 n3 : Int) (h2 : okL k2 n2) (h3 : okL k3 n3) (h : (orK 0 0 k3 n3 == 2) = true) : (orK k2 n2 k3 n3 == orK 0 0 k3 n3 && orN k2 n2 k3 n3 == orN 0 0 k3 n3) = true := by
  rcases h2 with ⟨rfl, rfl⟩ | ⟨rfl, rfl⟩ | ⟨rfl, rfl⟩ <;> rcases h3 with ⟨rfl, rfl⟩ | ⟨rfl, rfl⟩ | ⟨rfl, rfl⟩ <;> first | rfl | exact absurd h (by decide)
theorem l_not1 (k1 n1 k2 n2 : Int) (h1 : okL k1 n1) (h2 : okL k2 n2) : ((notV (andK k1 n1 k2 n2) (andN k1 n1 k2 n2)).1 == orK (notV k1 n1).1 (notV k1 n1).2 (notV k2 n2).1 (notV k2 n2).2 && (notV (andK k1 n1 k2 n2) (andN k1 n1 k2 n2)).2 == orN (notV k1 n1).1 (notV k1 n1).2 (notV k2 n2).1 (notV k2 n2).2) = true := by
  rcases h1 with ⟨rfl, rfl⟩ | ⟨rfl, rfl⟩ | ⟨rfl, rfl⟩ <;> rcases h2 with ⟨rfl, rfl⟩ | ⟨rfl, rfl⟩ | ⟨rfl, rfl⟩ <;> rfl
theorem l_not2 (k1 n1 : Int) (h1 : okL k1 n1) : ((notV (notV k1 n1).1 (notV k1 n1).2).1 == k1 && (notV (notV k1 n1).1 (notV k1 n1).2).2 == n1) = true := by
  rcases h1 with ⟨rfl, rfl⟩ | ⟨rfl, rfl⟩ | ⟨rfl, rfl⟩ <;> rfl

theorem cell_alloc_old (W : World) (o : Obj) (b off : Nat) (h : b < W.heap.size) : (W.alloc o).cell? ⟨b, off, none⟩ = W.cell? ⟨b, off, none⟩ :=
  ((Below.refl W.heap.size W).alloc (Nat.le_refl _) o).cell (p := ⟨b, off, none⟩) h

theorem met_new {W1 w2 : World} (HD : Hid (Below W1.heap.size W1 w2)) (x y : Int) (t : TypeId) :
    ∃ b : Nat, Value.pointer (some ⟨w2.heap.size, 0, none⟩) = .pointer (some ⟨b, 0, none⟩) ∧ b < (w2.alloc (.cells #[.int .i64 x, .int .i64 y] t)).heap.size ∧ (w2.alloc (.cells #[.int .i64 x, .int .i64 y] t)).cell? ⟨b, 0, none⟩ = some (.int .i64 x) ∧ (w2.alloc (.cells #[.int .i64 x, .int .i64 y] t)).cell? ⟨b, 1, none⟩ = some (.int .i64 y) ∧ Hid (Below W1.heap.size W1 (w2.alloc (.cells #[.int .i64 x, .int .i64 y] t))) :=
  ⟨_, rfl, by simp, by go_simp, by go_simp, nxta HD _⟩

theorem met_set {W1 w2 : World} (HD : Hid (Below W1.heap.size W1 w2)) (x y : Int) {b : Nat} (h1 : W1.heap.size ≤ b) (h2 : b < w2.heap.size) (c0 : w2.cell? ⟨b, 0, none⟩ = some (.int .i64 0)) (c1 : w2.cell? ⟨b, 1, none⟩ = some (.int .i64 0)) :
    ∃ b' : Nat, Value.pointer (some ⟨b, 0, none⟩) = .pointer (some ⟨b', 0, none⟩) ∧ b' < ((w2.setCell ⟨b, 0, none⟩ (.int .i64 x)).setCell ⟨b, 1, none⟩ (.int .i64 y)).heap.size ∧ ((w2.setCell ⟨b, 0, none⟩ (.int .i64 x)).setCell ⟨b, 1, none⟩ (.int .i64 y)).cell? ⟨b', 0, none⟩ = some (.int .i64 x) ∧ ((w2.setCell ⟨b, 0, none⟩ (.int .i64 x)).setCell ⟨b, 1, none⟩ (.int .i64 y)).cell? ⟨b', 1, none⟩ = some (.int .i64 y) ∧ Hid (Below W1.heap.size W1 ((w2.setCell ⟨b, 0, none⟩ (.int .i64 x)).setCell ⟨b, 1, none⟩ (.int .i64 y))) :=
  ⟨b, rfl, by simpa [World.setCell] using h2, by go_simp, by go_simp, (HD.out.setCell (p := ⟨b, 0, none⟩) h1 _).setCell (p := ⟨b, 1, none⟩) h1 _⟩

/-- the world ahead of the loops: the three arguments' blocks, and the block of the list of them -/
structure LW (g s : Nat) (k1 n1 k2 n2 k3 n3 : Int) (w W1 : World) : Prop where
  a0 : W1.cell? ⟨g, 0, none⟩ = some (.int .i64 k1)
  a1 : W1.cell? ⟨g, 1, none⟩ = some (.int .i64 n1)
  b0 : W1.cell? ⟨g + 1, 0, none⟩ = some (.int .i64 k2)
  b1 : W1.cell? ⟨g + 1, 1, none⟩ = some (.int .i64 n2)
  c0 : W1.cell? ⟨g + 1 + 1, 0, none⟩ = some (.int .i64 k3)
  c1 : W1.cell? ⟨g + 1 + 1, 1, none⟩ = some (.int .i64 n3)
  s0 : W1.cell? ⟨s, 0, none⟩ = some (.int .i64 k1)
  s1 : W1.cell? ⟨s, 1, none⟩ = some (.int .i64 n1)
  s2 : W1.cell? ⟨s, 2, none⟩ = some (.int .i64 k2)
  s3 : W1.cell? ⟨s, 3, none⟩ = some (.int .i64 n2)
  s4 : W1.cell? ⟨s, 4, none⟩ = some (.int .i64 k3)
  s5 : W1.cell? ⟨s, 5, none⟩ = some (.int .i64 n3)
  zg : g < W1.heap.size
  zg1 : g + 1 < W1.heap.size
  zg2 : g + 1 + 1 < W1.heap.size
  zs : s < W1.heap.size
  bel : Below g w W1

theorem w5_below (w : World) (a b c d e : Obj) : Below w.heap.size w (((((w.alloc a).alloc b).alloc c).alloc d).alloc e) :=
  ((w3_below w a b c).alloc (by simp; omega) _).alloc (by simp; omega) _

set_option maxHeartbeats 4000000 in
theorem logic_walk (k1 n1 k2 n2 k3 n3 : Int) (w : World) :
    Calls Try.prog 6 #[.agg #[.int .i64 k1, .int .i64 n1], .agg #[.int .i64 k2, .int .i64 n2], .agg #[.int .i64 k3, .int .i64 n3]] w fun e w' => e = .returned (.bool true) ∧ Below w.heap.size w w' := by
  have HB : Hid (Below (((((w.alloc (.cells #[.int .i64 k1, .int .i64 n1] 35)).alloc (.cells #[.int .i64 k2, .int .i64 n2] 35)).alloc (.cells #[.int .i64 k3, .int .i64 n3] 35)).alloc (.cells #[.int .i64 2, .int .i64 0] 35)).alloc (.cells #[.int .i64 2, .int .i64 0] 35)).heap.size (((((w.alloc (.cells #[.int .i64 k1, .int .i64 n1] 35)).alloc (.cells #[.int .i64 k2, .int .i64 n2] 35)).alloc (.cells #[.int .i64 k3, .int .i64 n3] 35)).alloc (.cells #[.int .i64 2, .int .i64 0] 35)).alloc (.cells #[.int .i64 2, .int .i64 0] 35)) (((((w.alloc (.cells #[.int .i64 k1, .int .i64 n1] 35)).alloc (.cells #[.int .i64 k2, .int .i64 n2] 35)).alloc (.cells #[.int .i64 k3, .int .i64 n3] 35)).alloc (.cells #[.int .i64 2, .int .i64 0] 35)).alloc (.cells #[.int .i64 2, .int .i64 0] 35))) := Below.refl _ _
  have kn := kin_some (((((w.alloc (.cells #[.int .i64 k1, .int .i64 n1] 35)).alloc (.cells #[.int .i64 k2, .int .i64 n2] 35)).alloc (.cells #[.int .i64 k3, .int .i64 n3] 35)).alloc (.cells #[.int .i64 2, .int .i64 0] 35)).alloc (.cells #[.int .i64 2, .int .i64 0] 35))
  obtain ⟨kc, kf⟩ := kin_rules (((((w.alloc (.cells #[.int .i64 k1, .int .i64 n1] 35)).alloc (.cells #[.int .i64 k2, .int .i64 n2] 35)).alloc (.cells #[.int .i64 k3, .int .i64 n3] 35)).alloc (.cells #[.int .i64 2, .int .i64 0] 35)).alloc (.cells #[.int .i64 2, .int .i64 0] 35))
  have d1 : andK 2 0 0 0 = 2 := rfl
  have d2 : andN 2 0 0 0 = 0 := rfl
  have d3 : notV 0 0 = (0, 0) := rfl
  go_enter Try.func6, Try.ntmps6
  go_wp2_with (go_at_call 32; refine (truth_any _ _).mono ?_; rintro e w' ⟨rfl, rfl⟩)
  refine wp_region_kin HB (by kernel_rfl) (by kernel_rfl) ?_
  repeat (go_big_quiet_step (first | (go_at_call 34; exact kin_of (null_b _)) | (go_at_call 33; exact kin_of (do_and _ _ _ _ _)) | (go_at_call 35; exact kin_of (not_any _ _ _))))
  refine wpQuiet_nil ?_
  rintro _ ⟨p, rfl⟩
  have HP : Hid (Below w.heap.size w p.w) := (w5_below _ _ _ _ _ _).trans (p.h.mono (by simp; omega))
  clear HB d1 d2 d3
  go_wp2_with fail
  have hz := p.h.size
  simp only [World.size_alloc] at hz
  have hL : LW w.heap.size p.w.heap.size k1 n1 k2 n2 k3 n3 w (p.w.alloc (.cells #[.int .i64 k1, .int .i64 n1, .int .i64 k2, .int .i64 n2, .int .i64 k3, .int .i64 n3] 35)) := by
    have hx : Below p.w.heap.size p.w (p.w.alloc (.cells #[.int .i64 k1, .int .i64 n1, .int .i64 k2, .int .i64 n2, .int .i64 k3, .int .i64 n3] 35)) := (Below.refl _ _).alloc (Nat.le_refl _) _
    refine ⟨?_, ?_, ?_, ?_, ?_, ?_, ?_, ?_, ?_, ?_, ?_, ?_, ?_, ?_, ?_, ?_, ?_⟩
    · rw [hx.cell (p := ⟨w.heap.size, 0, none⟩) (by show w.heap.size < p.w.heap.size; omega), kc p _ _ (by simp <;> omega)]; go_simp
    · rw [hx.cell (p := ⟨w.heap.size, 1, none⟩) (by show w.heap.size < p.w.heap.size; omega), kc p _ _ (by simp <;> omega)]; go_simp
    · rw [hx.cell (p := ⟨w.heap.size + 1, 0, none⟩) (by show w.heap.size + 1 < p.w.heap.size; omega), kc p _ _ (by simp <;> omega)]; go_simp
    · rw [hx.cell (p := ⟨w.heap.size + 1, 1, none⟩) (by show w.heap.size + 1 < p.w.heap.size; omega), kc p _ _ (by simp <;> omega)]; go_simp
    · rw [hx.cell (p := ⟨w.heap.size + 1 + 1, 0, none⟩) (by show w.heap.size + 1 + 1 < p.w.heap.size; omega), kc p _ _ (by simp <;> omega)]; go_simp
    · rw [hx.cell (p := ⟨w.heap.size + 1 + 1, 1, none⟩) (by show w.heap.size + 1 + 1 < p.w.heap.size; omega), kc p _ _ (by simp <;> omega)]; go_simp
    · go_simp
    · go_simp
    · go_simp
    · go_simp
    · go_simp
    · go_simp
    · simp; omega
    · simp; omega
    · simp; omega
    · simp
    · exact HP.out.alloc (by omega) _
  clear hz HP kc kf kn
  generalize hW1 : p.w.alloc (.cells #[.int .i64 k1, .int .i64 n1, .int .i64 k2, .int .i64 n2, .int .i64 k3, .int .i64 n3] 35) = W1 at hL ⊢
  clear hW1
  generalize p.w.heap.size = s at hL ⊢
  clear p
  have HL : Hid (Below w.heap.size w W1) := hL.bel
  obtain ⟨a0, a1, b0, b1, c0, c1, s0, s1, s2, s3, s4, s5, zg, zg1, zg2, zs, bel⟩ := hL
  clear bel
  go_loopw [9] (fun iv wr => ∃ k : Nat, k ≤ 3 ∧ iv = .int .i64 k ∧ Hid (Below W1.heap.size W1 wr) ∧ (1 ≤ k → okL k1 n1) ∧ (2 ≤ k → okL k2 n2) ∧ (3 ≤ k → okL k3 n3)) (fun iv wr => 3 - (intOf iv).toNat)
  case atStart => exact ⟨0, by omega, rfl, Below.refl _ _, fun h => absurd h (by omega), fun h => absurd h (by omega), fun h => absurd h (by omega)⟩
  case round =>
    obtain ⟨k, hk, rfl, HB, o1, o2, o3⟩ := hrel
    have o1 : Hid (1 ≤ k → okL k1 n1) := o1
    have o2 : Hid (2 ≤ k → okL k2 n2) := o2
    have o3 : Hid (3 ≤ k → okL k3 n3) := o3
    obtain ⟨hc, hf⟩ := rules HB
    have kk : k = 0 ∨ k = 1 ∨ k = 2 ∨ k = 3 := by omega
    clear hk
    rcases kk with rfl | rfl | rfl | rfl
    · have v : vok k1 n1 = true ∨ vok k1 n1 = false := by cases vok k1 n1 <;> simp
      rcases v with v | v
      · have VV : Hid (vok k1 n1 = true) := v
        by_cases hk1 : k1 = 1
        · have hb1 : (k1 == 1) = true := by simp [hk1]
          clear v hk1
          go_wp2_with (go_at_call 36; refine (check_yes _ _ _ (by exact VV.out)).mono ?_; rintro e w1 ⟨rfl, hb⟩; have HB := nxt HB hb; obtain ⟨hc, hf⟩ := rules HB; clear hb)
          go_ret
          exact ⟨rfl, done HL.out HB⟩
        · have hok : okL k1 n1 := okL_of _ _ v hk1
          have hb1 : (k1 == 1) = false := by simp [hk1]
          clear v hk1
          have HO : Hid (okL k1 n1) := hok
          clear hok
          go_wp2_with (go_at_call 36; refine (check_yes _ _ _ (by exact VV.out)).mono ?_; rintro e w1 ⟨rfl, hb⟩; have HB := nxt HB hb; obtain ⟨hc, hf⟩ := rules HB; clear hb)
          have hok := HO.out
          go_roundw
          case rel => exact ⟨1, by omega, rfl, HB, fun _ => hok, fun h => absurd h (by omega), fun h => absurd h (by omega)⟩
          case measure => simp [intOf]
      · have VV : Hid (vok k1 n1 = false) := v
        clear v
        go_wp2_with (go_at_call 36; refine (check_no _ _ _ (by exact VV.out)).mono ?_; rintro e w1 ⟨rfl, hb⟩; have HB := nxt HB hb; obtain ⟨hc, hf⟩ := rules HB; clear hb)
        go_ret
        exact ⟨rfl, done HL.out HB⟩
    · have v : vok k2 n2 = true ∨ vok k2 n2 = false := by cases vok k2 n2 <;> simp
      rcases v with v | v
      · have VV : Hid (vok k2 n2 = true) := v
        by_cases hk1 : k2 = 1
        · have hb1 : (k2 == 1) = true := by simp [hk1]
          clear v hk1
          go_wp2_with (go_at_call 36; refine (check_yes _ _ _ (by exact VV.out)).mono ?_; rintro e w1 ⟨rfl, hb⟩; have HB := nxt HB hb; obtain ⟨hc, hf⟩ := rules HB; clear hb)
          go_ret
          exact ⟨rfl, done HL.out HB⟩
        · have hok : okL k2 n2 := okL_of _ _ v hk1
          have hb1 : (k2 == 1) = false := by simp [hk1]
          clear v hk1
          have HO : Hid (okL k2 n2) := hok
          clear hok
          go_wp2_with (go_at_call 36; refine (check_yes _ _ _ (by exact VV.out)).mono ?_; rintro e w1 ⟨rfl, hb⟩; have HB := nxt HB hb; obtain ⟨hc, hf⟩ := rules HB; clear hb)
          have hok := HO.out
          go_roundw
          case rel => exact ⟨2, by omega, rfl, HB, fun _ => o1.out (by omega), fun _ => hok, fun h => absurd h (by omega)⟩
          case measure => simp [intOf]
      · have VV : Hid (vok k2 n2 = false) := v
        clear v
        go_wp2_with (go_at_call 36; refine (check_no _ _ _ (by exact VV.out)).mono ?_; rintro e w1 ⟨rfl, hb⟩; have HB := nxt HB hb; obtain ⟨hc, hf⟩ := rules HB; clear hb)
        go_ret
        exact ⟨rfl, done HL.out HB⟩
    · have v : vok k3 n3 = true ∨ vok k3 n3 = false := by cases vok k3 n3 <;> simp
      rcases v with v | v
      · have VV : Hid (vok k3 n3 = true) := v
        by_cases hk1 : k3 = 1
        · have hb1 : (k3 == 1) = true := by simp [hk1]
          clear v hk1
          go_wp2_with (go_at_call 36; refine (check_yes _ _ _ (by exact VV.out)).mono ?_; rintro e w1 ⟨rfl, hb⟩; have HB := nxt HB hb; obtain ⟨hc, hf⟩ := rules HB; clear hb)
          go_ret
          exact ⟨rfl, done HL.out HB⟩
        · have hok : okL k3 n3 := okL_of _ _ v hk1
          have hb1 : (k3 == 1) = false := by simp [hk1]
          clear v hk1
          have HO : Hid (okL k3 n3) := hok
          clear hok
          go_wp2_with (go_at_call 36; refine (check_yes _ _ _ (by exact VV.out)).mono ?_; rintro e w1 ⟨rfl, hb⟩; have HB := nxt HB hb; obtain ⟨hc, hf⟩ := rules HB; clear hb)
          have hok := HO.out
          go_roundw
          case rel => exact ⟨3, by omega, rfl, HB, fun _ => o1.out (by omega), fun _ => o2.out (by omega), fun _ => hok⟩
          case measure => simp [intOf]
      · have VV : Hid (vok k3 n3 = false) := v
        clear v
        go_wp2_with (go_at_call 36; refine (check_no _ _ _ (by exact VV.out)).mono ?_; rintro e w1 ⟨rfl, hb⟩; have HB := nxt HB hb; obtain ⟨hc, hf⟩ := rules HB; clear hb)
        go_ret
        exact ⟨rfl, done HL.out HB⟩
    · go_wp2_with fail
      have o1 : Hid (okL k1 n1) := o1.out (by omega)
      have o2 : Hid (okL k2 n2) := o2.out (by omega)
      have o3 : Hid (okL k3 n3) := o3.out (by omega)
      clear s0 s1 s2 s3 s4 s5 hc hf
      have kn := kin_some W1
      obtain ⟨kc, kf⟩ := kin_rules W1
      have HB0 := HB
      clear HB
      obtain ⟨wo, HO⟩ : ∃ wo : World, Hid (wo = wr) := ⟨_, rfl⟩
      go_loopw [10] (fun ov wr => (∃ m : Int, (m = 9 ∨ m = 10 ∨ m = 11) ∧ ov = .int .i64 m) ∧ Hid (Below W1.heap.size W1 wr)) (fun ov wr => (11 - intOf ov).toNat)
      case atStart => exact ⟨⟨9, .inl rfl, rfl⟩, HB0⟩
      case round =>
      obtain ⟨⟨m, hm, rfl⟩, HB⟩ := hrel
      clear HB0 HO
      rcases hm with rfl | rfl | rfl
      · have f1 := l_and1 k1 n1 k2 n2 o1.out o2.out
        have f2 := l_and2 k1 n1 k2 n2 k3 n3 o1.out o2.out o3.out
        have f3 := l_and3 k1 n1 o1.out
        have F4 : Hid ((andK 0 0 k3 n3 == 2) = true → (andK k2 n2 k3 n3 == andK 0 0 k3 n3 && andN k2 n2 k3 n3 == andN 0 0 k3 n3) = true) := l_and4 k2 n2 k3 n3 o2.out o3.out
        go_wp2_with fail
        refine wp_region_kin HB (by kernel_rfl) (by kernel_rfl) ?_
        repeat (go_big_quiet_step ((go_at_call 33; exact kin_of (do_and _ _ _ _ _))))
        refine wpQuiet_nil ?_
        rintro _ ⟨p, rfl⟩
        have HB : Hid (Below W1.heap.size W1 p.w) := p.h
        clear f1 f2 f3
        go_upto_region 15 with fail
        go_cut [11] (fun x wx => ∃ b : Nat, x = .pointer (some ⟨b, 0, none⟩) ∧ b < wx.heap.size ∧ wx.cell? ⟨b, 0, none⟩ = some (.int .i64 (andK 0 0 k3 n3)) ∧ wx.cell? ⟨b, 1, none⟩ = some (.int .i64 (andN 0 0 k3 n3)) ∧ Hid (Below W1.heap.size W1 wx))
        case first =>
          have HB := nxtd HB
          have zz0 : w.heap.size + 1 + 1 < p.w.heap.size := Nat.lt_of_lt_of_le zg2 HB.out.size
          have al0 : ∀ (o : Obj) (b off : Nat), b < p.w.heap.size → (p.w.alloc o).cell? ⟨b, off, none⟩ = p.w.cell? ⟨b, off, none⟩ := cell_alloc_old _
          go_region_with (first
            | (go_at_call 34; refine (null_b _).mono ?_; rintro e w1 ⟨rfl, hb⟩; first | (have HN := nxt HB hb; obtain ⟨hc, hf⟩ := rules HN; obtain ⟨ic, jf⟩ := bcell hb; have zz1 := Nat.lt_of_lt_of_le zg2 HN.out.size; have al1 := cell_alloc_old w1; clear hb) | (have HN := nxt (nxta HB _) hb; have y1 : p.w.heap.size < w1.heap.size := by { have hq := hb.size; simp at hq; omega }; obtain ⟨hc, hf⟩ := rules HN; obtain ⟨ic, jf⟩ := bcell hb; have zz1 := Nat.lt_of_lt_of_le zg2 HN.out.size; have al1 := cell_alloc_old w1; clear hb))
            | (go_at_call 33; refine (do_and _ _ _ _ _).mono ?_; rintro e w2 ⟨rfl, hb⟩; first | (have HD := nxt HN hb; have y2 : w1.heap.size ≤ w2.heap.size := hb.size; obtain ⟨hc2, hf2⟩ := rules HD; obtain ⟨ic2, jf2⟩ := bcell hb; have zz2 := Nat.lt_of_lt_of_le zg2 HD.out.size; clear hb) | (have HD := nxt (nxta HN _) hb; have y2 : w1.heap.size < w2.heap.size := by { have hq := hb.size; simp at hq; omega }; obtain ⟨hc2, hf2⟩ := rules HD; obtain ⟨ic2, jf2⟩ := bcell hb; have zz2 := Nat.lt_of_lt_of_le zg2 HD.out.size; clear hb)))
          all_goals (go_wp2_with fail; go_meet)
          all_goals first
            | exact met_new HD _ _ _
            | exact met_set HD _ _ (b := w1.heap.size) HN.out.size y2 (by go_simp) (by go_simp)
            | exact met_set HD _ _ (b := p.w.heap.size) HB.out.size (Nat.lt_of_lt_of_le y1 y2) (by go_simp) (by go_simp)
        case rest =>
          obtain ⟨b, rfl, hbz, x0, x1, HB⟩ := hcut
          obtain ⟨hc, hf⟩ := rules HB
          have HX : Hid (Below wc.heap.size wc wc) := Below.refl _ _
          have kn2 := kin_some wc
          obtain ⟨kc2, kf2⟩ := kin_rules wc
          have q0 := Nat.lt_of_lt_of_le zg HB.out.size
          have q1 := Nat.lt_of_lt_of_le zg1 HB.out.size
          have q2 := Nat.lt_of_lt_of_le zg2 HB.out.size
          cases hg : (andK 0 0 k3 n3 == 2)
          · clear F4
            go_wp2_with fail
            refine wp_region_kin HX (by kernel_rfl) (by kernel_rfl) ?_
            repeat (go_big_quiet_step (fail))
            refine wpQuiet_nil ?_
            rintro _ ⟨r, rfl⟩
            have HB : Hid (Below W1.heap.size W1 r.w) := HB.out.trans (r.h.mono HB.out.size)
            go_wp2_with fail
            go_roundw
            case rel => exact ⟨⟨10, .inr (.inl rfl), rfl⟩, HB⟩
            case measure => simp [intOf]
          · have f4 := F4.out hg
            clear F4
            go_wp2_with fail
            refine wp_region_kin HX (by kernel_rfl) (by kernel_rfl) ?_
            repeat (go_big_quiet_step ((go_at_call 33; exact kin_of (do_and _ _ _ _ _))))
            refine wpQuiet_nil ?_
            rintro _ ⟨r, rfl⟩
            have HB : Hid (Below W1.heap.size W1 r.w) := HB.out.trans (r.h.mono HB.out.size)
            clear f4
            go_wp2_with fail
            go_roundw
            case rel => exact ⟨⟨10, .inr (.inl rfl), rfl⟩, HB⟩
            case measure => simp [intOf]
      · have f1 := l_or1 k1 n1 k2 n2 o1.out o2.out
        have f2 := l_or2 k1 n1 k2 n2 k3 n3 o1.out o2.out o3.out
        have f3 := l_or3 k1 n1 o1.out
        have F4 : Hid ((orK 0 0 k3 n3 == 2) = true → (orK k2 n2 k3 n3 == orK 0 0 k3 n3 && orN k2 n2 k3 n3 == orN 0 0 k3 n3) = true) := l_or4 k2 n2 k3 n3 o2.out o3.out
        go_wp2_with fail
        refine wp_region_kin HB (by kernel_rfl) (by kernel_rfl) ?_
        repeat (go_big_quiet_step ((go_at_call 33; exact kin_of (do_or _ _ _ _ _))))
        refine wpQuiet_nil ?_
        rintro _ ⟨p, rfl⟩
        have HB : Hid (Below W1.heap.size W1 p.w) := p.h
        clear f1 f2 f3
        go_upto_region 15 with fail
        go_cut [11] (fun x wx => ∃ b : Nat, x = .pointer (some ⟨b, 0, none⟩) ∧ b < wx.heap.size ∧ wx.cell? ⟨b, 0, none⟩ = some (.int .i64 (orK 0 0 k3 n3)) ∧ wx.cell? ⟨b, 1, none⟩ = some (.int .i64 (orN 0 0 k3 n3)) ∧ Hid (Below W1.heap.size W1 wx))
        case first =>
          have HB := nxtd HB
          have zz0 : w.heap.size + 1 + 1 < p.w.heap.size := Nat.lt_of_lt_of_le zg2 HB.out.size
          have al0 : ∀ (o : Obj) (b off : Nat), b < p.w.heap.size → (p.w.alloc o).cell? ⟨b, off, none⟩ = p.w.cell? ⟨b, off, none⟩ := cell_alloc_old _
          go_region_with (first
            | (go_at_call 34; refine (null_b _).mono ?_; rintro e w1 ⟨rfl, hb⟩; first | (have HN := nxt HB hb; obtain ⟨hc, hf⟩ := rules HN; obtain ⟨ic, jf⟩ := bcell hb; have zz1 := Nat.lt_of_lt_of_le zg2 HN.out.size; have al1 := cell_alloc_old w1; clear hb) | (have HN := nxt (nxta HB _) hb; have y1 : p.w.heap.size < w1.heap.size := by { have hq := hb.size; simp at hq; omega }; obtain ⟨hc, hf⟩ := rules HN; obtain ⟨ic, jf⟩ := bcell hb; have zz1 := Nat.lt_of_lt_of_le zg2 HN.out.size; have al1 := cell_alloc_old w1; clear hb))
            | (go_at_call 33; refine (do_or _ _ _ _ _).mono ?_; rintro e w2 ⟨rfl, hb⟩; first | (have HD := nxt HN hb; have y2 : w1.heap.size ≤ w2.heap.size := hb.size; obtain ⟨hc2, hf2⟩ := rules HD; obtain ⟨ic2, jf2⟩ := bcell hb; have zz2 := Nat.lt_of_lt_of_le zg2 HD.out.size; clear hb) | (have HD := nxt (nxta HN _) hb; have y2 : w1.heap.size < w2.heap.size := by { have hq := hb.size; simp at hq; omega }; obtain ⟨hc2, hf2⟩ := rules HD; obtain ⟨ic2, jf2⟩ := bcell hb; have zz2 := Nat.lt_of_lt_of_le zg2 HD.out.size; clear hb)))
          all_goals (go_wp2_with fail; go_meet)
          all_goals first
            | exact met_new HD _ _ _
            | exact met_set HD _ _ (b := w1.heap.size) HN.out.size y2 (by go_simp) (by go_simp)
            | exact met_set HD _ _ (b := p.w.heap.size) HB.out.size (Nat.lt_of_lt_of_le y1 y2) (by go_simp) (by go_simp)
        case rest =>
          obtain ⟨b, rfl, hbz, x0, x1, HB⟩ := hcut
          obtain ⟨hc, hf⟩ := rules HB
          have HX : Hid (Below wc.heap.size wc wc) := Below.refl _ _
          have kn2 := kin_some wc
          obtain ⟨kc2, kf2⟩ := kin_rules wc
          have q0 := Nat.lt_of_lt_of_le zg HB.out.size
          have q1 := Nat.lt_of_lt_of_le zg1 HB.out.size
          have q2 := Nat.lt_of_lt_of_le zg2 HB.out.size
          cases hg : (orK 0 0 k3 n3 == 2)
          · clear F4
            go_wp2_with fail
            refine wp_region_kin HX (by kernel_rfl) (by kernel_rfl) ?_
            repeat (go_big_quiet_step (fail))
            refine wpQuiet_nil ?_
            rintro _ ⟨r, rfl⟩
            have HB : Hid (Below W1.heap.size W1 r.w) := HB.out.trans (r.h.mono HB.out.size)
            go_wp2_with fail
            go_roundw
            case rel => exact ⟨⟨11, .inr (.inr rfl), rfl⟩, HB⟩
            case measure => simp [intOf]
          · have f4 := F4.out hg
            clear F4
            go_wp2_with fail
            refine wp_region_kin HX (by kernel_rfl) (by kernel_rfl) ?_
            repeat (go_big_quiet_step ((go_at_call 33; exact kin_of (do_or _ _ _ _ _))))
            refine wpQuiet_nil ?_
            rintro _ ⟨r, rfl⟩
            have HB : Hid (Below W1.heap.size W1 r.w) := HB.out.trans (r.h.mono HB.out.size)
            clear f4
            go_wp2_with fail
            go_roundw
            case rel => exact ⟨⟨11, .inr (.inr rfl), rfl⟩, HB⟩
            case measure => simp [intOf]
      · have g1 := l_not1 k1 n1 k2 n2 o1.out o2.out
        have g2 := l_not2 k1 n1 o1.out
        go_wp2_with fail
        refine wp_region_kin HB (by kernel_rfl) (by kernel_rfl) ?_
        repeat (go_big_quiet_step (first | (go_at_call 35; exact kin_of (not_any _ _ _)) | (go_at_call_of 33 (Value.int IntKind.i64 9); exact kin_of (do_and _ _ _ _ _)) | (go_at_call 33; exact kin_of (do_or _ _ _ _ _))))
        refine wpQuiet_nil ?_
        rintro _ ⟨r, rfl⟩
        have HB : Hid (Below W1.heap.size W1 r.w) := r.h
        go_wp2_with fail
        go_ret
        exact ⟨rfl, done HL.out HB⟩
end Go.Proofs.Yticgfdcgobdlmaa

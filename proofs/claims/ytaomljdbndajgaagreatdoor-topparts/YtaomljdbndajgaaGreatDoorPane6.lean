/- The contracts of slices.Grow of nothing and of slices.Concat of three rows of panes, over this seat's translation. Conditions: as named. -/
import Derived.Test.YtaomljdbndajgaaGreatDoorPane3J
import Derived.Lib.AppendZeros
import Derived.Laws.AppendOwnNone
namespace Go.Proofs.YtaomljdbndajgaaGreatDoor
open Go.ChangeShapes Go.WideShapes Go.ChangeAt Go.RowKit
set_option linter.unusedVariables false
set_option linter.unusedSimpArgs false

set_option maxRecDepth 100000 in
set_option maxHeartbeats 1000000 in
theorem grow_any (n : Nat) (w : World) (h0 : 0 < n) (hn : n ≤ 1000) :
    Calls Tryz.prog 79 #[.slice none 0 0, .int .i64 n] w fun e w' => ∃ u, e = .returned u ∧ w'.ownsRow w.heap.size 64 5 u 0 [] ∧ Below w.heap.size w w' := by
  obtain ⟨i0, hi, hz0, hz1, hz2⟩ := info_parts infoP
  have HR := hidE (fun ty => Lib.run_append_nil_zeros (P := Tryz.prog) w 58 3 ty 64 i0 _ .i64 .i64 Tryz.underlying58 Tryz.underlying3 hi hz0 n h0 (by omega) (by omega) (by rw [hz2]; omega))
  have G1 := hidE (grownCap_ge w n 0 64)
  have G2 := hidE (grownCap_le_maxLen w n 0 64 (by show _ ≤ 2 ^ 63 - 1; omega))
  have HS : Hid ((Builtin.zeroCells (Value.agg #[.int .i64 0, .int .i64 0, .int .i64 0, .slice none 0 0, .bool false]).cells n ++ Builtin.zeroCells (Value.agg #[.int .i64 0, .int .i64 0, .int .i64 0, .slice none 0 0, .bool false]).cells (grownCap w n 0 64 - n)).size = grownCap w n 0 64 * 5) := by
    show _ = _
    rw [Array.size_append, size_zeroCells, size_zeroCells, show (Value.agg #[.int .i64 0, .int .i64 0, .int .i64 0, .slice none 0 0, .bool false]).cells.size = 5 from rfl]
    have := G1.out
    omega
  generalize grownCap w n 0 64 = C at *
  generalize (Builtin.zeroCells (Value.agg #[.int .i64 0, .int .i64 0, .int .i64 0, .slice none 0 0, .bool false]).cells n ++ Builtin.zeroCells (Value.agg #[.int .i64 0, .int .i64 0, .int .i64 0, .slice none 0 0, .bool false]).cells (C - n)) = Z at *
  have dn : decide ((n : Int) < 0) = false := by simp
  have dp : decide ((0 : Int) < (n : Int)) = true := by simp; omega
  go_enter Tryz.func79, Tryz.ntmps79
  go_wp2_with (at_builtin; go_must (refine Lib.wpList_append_run _ rfl _ _ _ _ rfl _ _ rfl rfl _ _ (HR.out _) ?_))
  go_ret
  refine ⟨_, rfl, ⟨by simp, .inr ⟨w.heap.size, C, Z, rfl, Nat.le_refl _, ?_, Nat.zero_le _, G2.out, HS.out, by simp⟩⟩, ?_⟩
  · show (w.drew.heap.push (.cells Z 64))[w.drew.heap.size]? = _
    exact Array.getElem?_push_size
  · exact ((Below.refl _ _).drew).alloc (by simp) _

/-- how many, and what, in the first of some rows -/
def sumN (n : Nat → Nat) : Nat → Nat
  | 0 => 0
  | m + 1 => sumN n m + n m
def cat (X : Nat → List Value) : Nat → List Value
  | 0 => []
  | m + 1 => cat X m ++ X m

set_option maxRecDepth 100000 in
set_option maxHeartbeats 2000000 in
theorem concat_any (g : Nat) (V : Nat → Value) (n : Nat → Nat) (X : Nat → List Value) (w : World) (lg : g < w.heap.size) (hc : ∀ j, j < 3 → w.cell? ⟨g, j, none⟩ = some (V j)) (hr : ∀ j, j < 3 → RowS w (V j) 5 (n j) (X j)) (h1 : ∀ j, j < 3 → ∀ u ∈ X j, u.oneCell' = true)
    (h0 : 0 < sumN n 3) (hs : sumN n 3 ≤ 1000) :
    Calls Tryz.prog 44 #[.slice (some ⟨g, 0, none⟩) 3 3] w fun e w' => ∃ u, e = .returned u ∧ w'.ownsRow w.heap.size 64 5 u (sumN n 3) (cat X 3) ∧ Below w.heap.size w w' := by
  obtain ⟨i0, hi, hz0, hz1, hz2⟩ := info_parts infoP
  have HC := hidE hc
  have HR := hidE hr
  have H1 := hidE h1
  have HS : Hid (∀ m, m < 3 → sumN n m + n m = sumN n (m + 1) ∧ sumN n (m + 1) ≤ 1000) := fun m hm => ⟨rfl, by
    have : sumN n 3 = ((0 + n 0) + n 1) + n 2 := rfl
    rcases (by omega : m = 0 ∨ m = 1 ∨ m = 2) with rfl | rfl | rfl
    · show 0 + n 0 ≤ 1000
      omega
    · show (0 + n 0) + n 1 ≤ 1000
      omega
    · exact hs⟩
  have GR := hidE (fun w => grow_any (sumN n 3) w h0 hs)
  clear hc hr h1
  go_enter Tryz.func44, Tryz.ntmps44
  go_wp2_with fail
  go_loopw [3, 11] (fun s i wr => ∃ m : Nat, m ≤ 3 ∧ s = .int .i64 (sumN n m : Nat) ∧ i = .int .i64 m ∧ wr = w) (fun s i _ => 3 - (intOf i).toNat)
  case atStart => exact ⟨0, by omega, rfl, rfl, rfl⟩
  case round =>
    obtain ⟨m, hm, rfl, rfl, hwr⟩ := hrel
    subst wr
    by_cases hlt : m < 3
    · have hs1 := HS.out m hlt
      have hcm := HC.out m hlt
      obtain ⟨ao, cap, hv⟩ := rowS_shape (HR.out m hlt)
      rw [hv] at hcm
      have hs3 : sumN n m + n m ≤ 1000 := by have := hs1.1; have := hs1.2; omega
      have HE : Hid (((sumN n (m + 1) : Nat) : Int) = (sumN n m : Int) + (n m : Int)) := by
        show _ = _
        rw [← hs1.1]
        simp
      generalize n m = nm at *
      generalize sumN n m = s1 at *
      clear hs1
      have dd : decide (((s1 : Int) + nm) < 0) = false := by simp; omega
      go_wp2_with fail
      go_roundw
      case rel => exact ⟨m + 1, by omega, by rw [HE.out], by go_num, by first | rfl | trivial⟩
      case measure => simp [intOf]; omega
    · have hme : m = 3 := by omega
      subst hme
      go_wp2_with fail
      refine (GR.out _).mono ?_
      rintro e w1 ⟨u0, rfl, ho, hb⟩
      have HO := hidE ho
      have HB := hidE hb
      obtain ⟨aou, capu, rfl⟩ := owns_shapeE ho
      clear ho hb
      go_wp2_with fail
      go_loopw [6, 27] (fun u i wr => ∃ m : Nat, m ≤ 3 ∧ i = .int .i64 m ∧ Hid (wr.ownsRow w.heap.size 64 5 u (sumN n m) (cat X m)) ∧ Hid (Below w.heap.size w wr)) (fun u i _ => 3 - (intOf i).toNat)
      case atStart => exact ⟨0, by omega, rfl, HO, HB⟩
      case round =>
        clear HO HB
        obtain ⟨m, hm, rfl, HO, HB⟩ := hrel
        obtain ⟨aou, capu, hu⟩ := owns_shapeE HO.out
        subst hu
        by_cases hlt : m < 3
        · have hs1 := HS.out m hlt
          have hcm := HC.out m hlt
          have c0 := HB.out.cell (p := ⟨g, m, none⟩) lg
          rw [hcm] at c0
          have hs3 : sumN n m + n m ≤ 1000 := by have := hs1.1; have := hs1.2; omega
          obtain ⟨hl, hrow⟩ := HR.out m hlt
          rcases hrow with ⟨hv, hn0⟩ | ⟨g2, off2, cap2, hv, q1, q2, q3, q4⟩
          · rw [hv] at c0
            have HX : Hid (cat X (m + 1) = cat X m ∧ sumN n (m + 1) = sumN n m) := ⟨by
              have : X m = [] := List.eq_nil_of_length_eq_zero (by rw [hl, hn0])
              show cat X m ++ X m = cat X m
              rw [this, List.append_nil], by
              show sumN n m + n m = _
              omega⟩
            generalize sumN n m = s1 at *
            clear hcm hs1 hl
            go_wp2_with (at_builtin; go_must (refine wpList_append_own_none rfl (.tmp 31) (.tmp 32) 58 rfl w.heap.size 64 i0 5 Tryz.underlying58 hi _ _ _ rfl HO.out rfl ?_))
            go_roundw
            case rel => exact ⟨m + 1, by omega, by go_num, by rw [HX.out.1, HX.out.2]; exact HO, HB⟩
            case measure => simp [intOf]; omega
          · rw [hv] at c0
            have HN : Hid (∀ j u, (X m)[j]? = some u → wr.cell? ((⟨g2, off2, none⟩ : Addr).add j) = some u) := fun j u hu => by
              have hj : j < n m * 5 := by
                have := (List.getElem?_eq_some_iff.1 hu).1
                omega
              have h3 : (⟨g2, off2, none⟩ : Addr).add j = ⟨g2, off2 + j, none⟩ := by simp [Addr.add]
              have h2 := HB.out.cell (p := ⟨g2, off2 + j, none⟩) q3
              rw [h3, h2, q4 j hj, hu]
            have HL := hidE hl
            have HOC := hidE (H1.out m hlt)
            have HX : Hid (cat X (m + 1) = cat X m ++ X m ∧ sumN n (m + 1) = sumN n m + n m) := ⟨rfl, rfl⟩
            generalize sumN n m = s1 at *
            generalize n m = nm at *
            generalize X m = Y at *
            generalize cat X m = Z at *
            unfold maxLen at q2
            have hbs := HB.out.size
            clear hcm hs1 hl q4 hv
            go_wp2_with (at_builtin; go_must (refine wpList_append_own _ rfl (.tmp 31) (.tmp 32) 58 rfl w.heap.size 64 i0 (.agg #[.int .i64 0, .int .i64 0, .int .i64 0, .slice none 0 0, .bool false]) 5 56 Tryz.underlying58 hi hz0 hz1 hz2 rfl (by decide) _ _ _ rfl HO.out ⟨g2, off2, none⟩ nm cap2 Y rfl HL.out HN.out HOC.out (by show _ ≤ 2 ^ 63 - 1; omega) (by omega) hbs ?_))
            intro v' w3 ho3 hg3 _
            have HO3 := hidE ho3
            have HB3 : Hid (Below w.heap.size w w3) := HB.out.grown hg3 hbs (fun k hk => (own_at HO.out k hk).1)
            clear ho3 hg3 HN
            go_wp2_with fail
            go_roundw
            case rel => exact ⟨m + 1, by omega, by go_num, by rw [HX.out.1, HX.out.2]; exact HO3, HB3⟩
            case measure => simp [intOf]; omega
        · have hme : m = 3 := by omega
          subst hme
          go_wp2_with fail
          go_ret
          exact ⟨_, rfl, HO.out, HB.out⟩
end Go.Proofs.YtaomljdbndajgaaGreatDoor

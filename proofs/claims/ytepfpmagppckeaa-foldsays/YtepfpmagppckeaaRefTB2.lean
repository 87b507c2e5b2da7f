/- The contract of penstockref.typeAt at nodes over two parts, over this seat's translation. Conditions: the nodes may be. -/
import Derived.Test.YtepfpmagppckeaaRefTA
namespace Go.Proofs.Ytepfpmagppckeaa
open Go.ChangeShapes Go.WideShapes Go.ChangeAt Go.RowKit
set_option linter.unusedVariables false
set_option linter.unusedSimpArgs false

set_option maxRecDepth 100000 in
set_option maxHeartbeats 8000000 in
theorem rta_10 (l : List Nd) (ao : Option Addr) (cap : Nat) (i : Nat) (x y a b : Int) (oa ob : Bool) (w : World) (hl : l.length ≤ 1000) (hi : i < l.length)
    (hr : RowG w (.slice ao l.length cap) 6 l.length (rowN l)) (hn : l[i]? = some ⟨10, x, y, 0, 0, 0⟩) (CX : ∀ w, RowG w (.slice ao l.length cap) 6 l.length (rowN l) → Calls Try.prog 47 #[.slice ao l.length cap, .int .i64 x] w fun e w' => e = .returned (.tuple #[.int .i64 a, .bool oa]) ∧ Below w.heap.size w w') (CY : ∀ w, RowG w (.slice ao l.length cap) 6 l.length (rowN l) → Calls Try.prog 47 #[.slice ao l.length cap, .int .i64 y] w fun e w' => e = .returned (.tuple #[.int .i64 b, .bool ob]) ∧ Below w.heap.size w w') :
    Calls Try.prog 47 #[.slice ao l.length cap, .int .i64 (i : Int)] w fun e w' => e = .returned (.tuple #[.int .i64 (tyR 10 a b oa ob).1, .bool (tyR 10 a b oa ob).2]) ∧ Below w.heap.size w w' := by
  obtain ⟨g, off, rfl, hnode, l1, l2, l3⟩ := rowN_node hr i hi
  rw [(List.getElem?_eq_some_iff.1 hn).2] at hnode
  obtain ⟨n0, n1, n2, n3, n4, n5⟩ := hnode
  simp only at n0 n1 n2 n3 n4 n5
  have HR := hidE hr
  have HCX := hidE CX
  have HCY := hidE CY
  clear hr CX CY hn
  unfold maxLen at l2
  have HW : Hid (Below w.heap.size w (w.alloc (.cells #[.int .i64 10, .int .i64 x, .int .i64 y, .int .i64 0, .int .i64 0, .int .i64 0] 50))) := (Below.refl _ _).alloc (Nat.le_refl _) _
  go_enter Try.func47, Try.ntmps47
  go_wp2_with fail
  refine (HCX.out _ (rowG_below HR.out HW.out)).mono ?_
  rintro e w1 ⟨rfl, hb⟩
  have HB := hidE hb
  obtain ⟨hc, hf⟩ := bcell hb
  clear hb
  go_wp2_with (go_at_call 18; refine (rarity_any _ _).mono ?_; rintro e w' ⟨rfl, hw⟩; subst w')
  refine (HCY.out _ (rowG_below (rowG_below HR.out HW.out) HB.out)).mono ?_
  rintro e w2 ⟨rfl, hb⟩
  have HB := nxt HB hb
  obtain ⟨hc, hf⟩ := rules HB
  clear hb
  cases oa
  · cases ob
    all_goals
      go_wp2_with fail
      go_ret2
      exact ⟨rfl, done HW.out HB⟩
  · cases ob
    · go_wp2_with fail
      go_ret2
      exact ⟨rfl, done HW.out HB⟩
    · cases hp : (a != 0) <;> cases hq : (a != 2) <;> cases hs : (b != 0) <;> cases ht : (b != 2)
      all_goals
        have hw : wantT 10 = 2 := by decide
        first
        | (have HX : Hid (tyR 10 a b true true = (0, false)) := (by show _ = _; unfold tyR; simp only [hw, hp, hq, hs, ht]; rfl)
           clear hw
           go_wp2_with fail
           all_goals (go_ret2; exact ⟨by rw [HX.out]; rfl, done HW.out HB⟩))
        | (have HX : Hid (tyR 10 a b true true = (2, true)) := (by show _ = _; unfold tyR; simp only [hw, hp, hq, hs, ht]; rfl)
           clear hw
           go_wp2_with fail
           all_goals (go_ret2; exact ⟨by rw [HX.out]; rfl, done HW.out HB⟩))
set_option maxRecDepth 100000 in
set_option maxHeartbeats 8000000 in
theorem rta_11 (l : List Nd) (ao : Option Addr) (cap : Nat) (i : Nat) (x y a b : Int) (oa ob : Bool) (w : World) (hl : l.length ≤ 1000) (hi : i < l.length)
    (hr : RowG w (.slice ao l.length cap) 6 l.length (rowN l)) (hn : l[i]? = some ⟨11, x, y, 0, 0, 0⟩) (CX : ∀ w, RowG w (.slice ao l.length cap) 6 l.length (rowN l) → Calls Try.prog 47 #[.slice ao l.length cap, .int .i64 x] w fun e w' => e = .returned (.tuple #[.int .i64 a, .bool oa]) ∧ Below w.heap.size w w') (CY : ∀ w, RowG w (.slice ao l.length cap) 6 l.length (rowN l) → Calls Try.prog 47 #[.slice ao l.length cap, .int .i64 y] w fun e w' => e = .returned (.tuple #[.int .i64 b, .bool ob]) ∧ Below w.heap.size w w') :
    Calls Try.prog 47 #[.slice ao l.length cap, .int .i64 (i : Int)] w fun e w' => e = .returned (.tuple #[.int .i64 (tyR 11 a b oa ob).1, .bool (tyR 11 a b oa ob).2]) ∧ Below w.heap.size w w' := by
  obtain ⟨g, off, rfl, hnode, l1, l2, l3⟩ := rowN_node hr i hi
  rw [(List.getElem?_eq_some_iff.1 hn).2] at hnode
  obtain ⟨n0, n1, n2, n3, n4, n5⟩ := hnode
  simp only at n0 n1 n2 n3 n4 n5
  have HR := hidE hr
  have HCX := hidE CX
  have HCY := hidE CY
  clear hr CX CY hn
  unfold maxLen at l2
  have HW : Hid (Below w.heap.size w (w.alloc (.cells #[.int .i64 11, .int .i64 x, .int .i64 y, .int .i64 0, .int .i64 0, .int .i64 0] 50))) := (Below.refl _ _).alloc (Nat.le_refl _) _
  go_enter Try.func47, Try.ntmps47
  go_wp2_with fail
  refine (HCX.out _ (rowG_below HR.out HW.out)).mono ?_
  rintro e w1 ⟨rfl, hb⟩
  have HB := hidE hb
  obtain ⟨hc, hf⟩ := bcell hb
  clear hb
  go_wp2_with (go_at_call 18; refine (rarity_any _ _).mono ?_; rintro e w' ⟨rfl, hw⟩; subst w')
  refine (HCY.out _ (rowG_below (rowG_below HR.out HW.out) HB.out)).mono ?_
  rintro e w2 ⟨rfl, hb⟩
  have HB := nxt HB hb
  obtain ⟨hc, hf⟩ := rules HB
  clear hb
  cases oa
  · cases ob
    all_goals
      go_wp2_with fail
      go_ret2
      exact ⟨rfl, done HW.out HB⟩
  · cases ob
    · go_wp2_with fail
      go_ret2
      exact ⟨rfl, done HW.out HB⟩
    · cases hp : (a != 0) <;> cases hq : (a != 1) <;> cases hs : (b != 0) <;> cases ht : (b != 1)
      all_goals
        have hw : wantT 11 = 1 := by decide
        first
        | (have HX : Hid (tyR 11 a b true true = (0, false)) := (by show _ = _; unfold tyR; simp only [hw, hp, hq, hs, ht]; rfl)
           clear hw
           go_wp2_with fail
           all_goals (go_ret2; exact ⟨by rw [HX.out]; rfl, done HW.out HB⟩))
        | (have HX : Hid (tyR 11 a b true true = (2, true)) := (by show _ = _; unfold tyR; simp only [hw, hp, hq, hs, ht]; rfl)
           clear hw
           go_wp2_with fail
           all_goals (go_ret2; exact ⟨by rw [HX.out]; rfl, done HW.out HB⟩))
set_option maxRecDepth 100000 in
set_option maxHeartbeats 8000000 in
theorem rta_12 (l : List Nd) (ao : Option Addr) (cap : Nat) (i : Nat) (x y a b : Int) (oa ob : Bool) (w : World) (hl : l.length ≤ 1000) (hi : i < l.length)
    (hr : RowG w (.slice ao l.length cap) 6 l.length (rowN l)) (hn : l[i]? = some ⟨12, x, y, 0, 0, 0⟩) (CX : ∀ w, RowG w (.slice ao l.length cap) 6 l.length (rowN l) → Calls Try.prog 47 #[.slice ao l.length cap, .int .i64 x] w fun e w' => e = .returned (.tuple #[.int .i64 a, .bool oa]) ∧ Below w.heap.size w w') (CY : ∀ w, RowG w (.slice ao l.length cap) 6 l.length (rowN l) → Calls Try.prog 47 #[.slice ao l.length cap, .int .i64 y] w fun e w' => e = .returned (.tuple #[.int .i64 b, .bool ob]) ∧ Below w.heap.size w w') :
    Calls Try.prog 47 #[.slice ao l.length cap, .int .i64 (i : Int)] w fun e w' => e = .returned (.tuple #[.int .i64 (tyR 12 a b oa ob).1, .bool (tyR 12 a b oa ob).2]) ∧ Below w.heap.size w w' := by
  obtain ⟨g, off, rfl, hnode, l1, l2, l3⟩ := rowN_node hr i hi
  rw [(List.getElem?_eq_some_iff.1 hn).2] at hnode
  obtain ⟨n0, n1, n2, n3, n4, n5⟩ := hnode
  simp only at n0 n1 n2 n3 n4 n5
  have HR := hidE hr
  have HCX := hidE CX
  have HCY := hidE CY
  clear hr CX CY hn
  unfold maxLen at l2
  have HW : Hid (Below w.heap.size w (w.alloc (.cells #[.int .i64 12, .int .i64 x, .int .i64 y, .int .i64 0, .int .i64 0, .int .i64 0] 50))) := (Below.refl _ _).alloc (Nat.le_refl _) _
  go_enter Try.func47, Try.ntmps47
  go_wp2_with fail
  refine (HCX.out _ (rowG_below HR.out HW.out)).mono ?_
  rintro e w1 ⟨rfl, hb⟩
  have HB := hidE hb
  obtain ⟨hc, hf⟩ := bcell hb
  clear hb
  go_wp2_with (go_at_call 18; refine (rarity_any _ _).mono ?_; rintro e w' ⟨rfl, hw⟩; subst w')
  refine (HCY.out _ (rowG_below (rowG_below HR.out HW.out) HB.out)).mono ?_
  rintro e w2 ⟨rfl, hb⟩
  have HB := nxt HB hb
  obtain ⟨hc, hf⟩ := rules HB
  clear hb
  cases oa
  · cases ob
    all_goals
      go_wp2_with fail
      go_ret2
      exact ⟨rfl, done HW.out HB⟩
  · cases ob
    · go_wp2_with fail
      go_ret2
      exact ⟨rfl, done HW.out HB⟩
    · cases hp : (a != 0) <;> cases hq : (a != 1) <;> cases hs : (b != 0) <;> cases ht : (b != 1)
      all_goals
        have hw : wantT 12 = 1 := by decide
        first
        | (have HX : Hid (tyR 12 a b true true = (0, false)) := (by show _ = _; unfold tyR; simp only [hw, hp, hq, hs, ht]; rfl)
           clear hw
           go_wp2_with fail
           all_goals (go_ret2; exact ⟨by rw [HX.out]; rfl, done HW.out HB⟩))
        | (have HX : Hid (tyR 12 a b true true = (2, true)) := (by show _ = _; unfold tyR; simp only [hw, hp, hq, hs, ht]; rfl)
           clear hw
           go_wp2_with fail
           all_goals (go_ret2; exact ⟨by rw [HX.out]; rfl, done HW.out HB⟩))
end Go.Proofs.Ytepfpmagppckeaa

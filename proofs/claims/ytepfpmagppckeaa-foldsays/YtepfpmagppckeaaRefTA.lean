/- The contract of penstockref.typeAt, over this seat's translation. Conditions: the nodes may be. -/
import Derived.Test.YtepfpmagppckeaaRefVB
import Derived.Test.YtepfpmagppckeaaExprT2
namespace Go.Proofs.Ytepfpmagppckeaa
open Go.ChangeShapes Go.WideShapes Go.ChangeAt Go.RowKit
set_option linter.unusedVariables false
set_option linter.unusedSimpArgs false

def wantT (op : Int) : Int := if op = 4 ∨ op = 9 ∨ op = 10 then 2 else 1
def tyR (op a b : Int) (oa ob : Bool) : Int × Bool :=
  if !(oa && ob) then (0, false) else if op = 5 then (2, true) else
  if (a != 0) && (a != wantT op) || (b != 0) && (b != wantT op) then (0, false) else (if op = 11 ∨ op = 12 then 2 else wantT op, true)

set_option maxRecDepth 100000 in
set_option maxHeartbeats 8000000 in
theorem rta_1 (l : List Nd) (ao : Option Addr) (cap : Nat) (i : Nat) (k v : Int) (w : World) (hl : l.length ≤ 1000) (hi : i < l.length)
    (hr : RowG w (.slice ao l.length cap) 6 l.length (rowN l)) (hn : l[i]? = some ⟨1, 0, 0, 0, k, v⟩) :
    Calls Try.prog 47 #[.slice ao l.length cap, .int .i64 (i : Int)] w fun e w' => e = .returned (.tuple #[.int .i64 k, .bool true]) ∧ Below w.heap.size w w' := by
  obtain ⟨g, off, rfl, hnode, l1, l2, l3⟩ := rowN_node hr i hi
  rw [(List.getElem?_eq_some_iff.1 hn).2] at hnode
  obtain ⟨n0, n1, n2, n3, n4, n5⟩ := hnode
  simp only at n0 n1 n2 n3 n4 n5
  have HR := hidE hr
  clear hr hn
  unfold maxLen at l2
  go_enter Try.func47, Try.ntmps47
  go_wp2_with fail
  go_ret2
  exact ⟨rfl, (Below.refl _ _).alloc (Nat.le_refl _) _⟩
set_option maxRecDepth 100000 in
set_option maxHeartbeats 8000000 in
theorem rta_2 (l : List Nd) (ao : Option Addr) (cap : Nat) (i : Nat) (nn : Int) (w : World) (hl : l.length ≤ 1000) (hi : i < l.length)
    (hr : RowG w (.slice ao l.length cap) 6 l.length (rowN l)) (hn : l[i]? = some ⟨2, 0, 0, nn, 0, 0⟩) :
    Calls Try.prog 47 #[.slice ao l.length cap, .int .i64 (i : Int)] w fun e w' => e = .returned (.tuple #[.int .i64 1, .bool true]) ∧ Below w.heap.size w w' := by
  obtain ⟨g, off, rfl, hnode, l1, l2, l3⟩ := rowN_node hr i hi
  rw [(List.getElem?_eq_some_iff.1 hn).2] at hnode
  obtain ⟨n0, n1, n2, n3, n4, n5⟩ := hnode
  simp only at n0 n1 n2 n3 n4 n5
  have HR := hidE hr
  clear hr hn
  unfold maxLen at l2
  go_enter Try.func47, Try.ntmps47
  go_wp2_with fail
  go_ret2
  exact ⟨rfl, (Below.refl _ _).alloc (Nat.le_refl _) _⟩
set_option maxRecDepth 100000 in
set_option maxHeartbeats 8000000 in
theorem rta_3 (l : List Nd) (ao : Option Addr) (cap : Nat) (i : Nat) (x a : Int) (oa : Bool) (w : World) (hl : l.length ≤ 1000) (hi : i < l.length)
    (hr : RowG w (.slice ao l.length cap) 6 l.length (rowN l)) (hn : l[i]? = some ⟨3, x, 0, 0, 0, 0⟩) (CX : ∀ w, RowG w (.slice ao l.length cap) 6 l.length (rowN l) → Calls Try.prog 47 #[.slice ao l.length cap, .int .i64 x] w fun e w' => e = .returned (.tuple #[.int .i64 a, .bool oa]) ∧ Below w.heap.size w w') :
    Calls Try.prog 47 #[.slice ao l.length cap, .int .i64 (i : Int)] w fun e w' => e = .returned (.tuple #[.int .i64 (tyR 3 a a oa oa).1, .bool (tyR 3 a a oa oa).2]) ∧ Below w.heap.size w w' := by
  obtain ⟨g, off, rfl, hnode, l1, l2, l3⟩ := rowN_node hr i hi
  rw [(List.getElem?_eq_some_iff.1 hn).2] at hnode
  obtain ⟨n0, n1, n2, n3, n4, n5⟩ := hnode
  simp only at n0 n1 n2 n3 n4 n5
  have HR := hidE hr
  have HCX := hidE CX
  clear hr CX hn
  unfold maxLen at l2
  have HW : Hid (Below w.heap.size w (w.alloc (.cells #[.int .i64 3, .int .i64 x, .int .i64 0, .int .i64 0, .int .i64 0, .int .i64 0] 50))) := (Below.refl _ _).alloc (Nat.le_refl _) _
  go_enter Try.func47, Try.ntmps47
  go_wp2_with fail
  refine (HCX.out _ (rowG_below HR.out HW.out)).mono ?_
  rintro e w1 ⟨rfl, hb⟩
  have HB := hidE hb
  obtain ⟨hc, hf⟩ := bcell hb
  clear hb
  cases oa
  · go_wp2_with (go_at_call 18; refine (rarity_any _ _).mono ?_; rintro e w' ⟨rfl, hw⟩; subst w')
    go_ret2
    exact ⟨rfl, done HW.out HB⟩
  · cases hp : (a != 0) <;> cases hq : (a != 1)
    all_goals
      have hw : wantT 3 = 1 := by decide
      first
      | (have HX : Hid (tyR 3 a a true true = (0, false)) := (by show _ = _; unfold tyR; simp only [hw, hp, hq]; rfl)
         clear hw
         go_wp2_with (go_at_call 18; refine (rarity_any _ _).mono ?_; rintro e w' ⟨rfl, hw⟩; subst w')
         all_goals (go_ret2; exact ⟨by rw [HX.out]; rfl, done HW.out HB⟩))
      | (have HX : Hid (tyR 3 a a true true = (1, true)) := (by show _ = _; unfold tyR; simp only [hw, hp, hq]; rfl)
         clear hw
         go_wp2_with (go_at_call 18; refine (rarity_any _ _).mono ?_; rintro e w' ⟨rfl, hw⟩; subst w')
         all_goals (go_ret2; exact ⟨by rw [HX.out]; rfl, done HW.out HB⟩))
set_option maxRecDepth 100000 in
set_option maxHeartbeats 8000000 in
theorem rta_4 (l : List Nd) (ao : Option Addr) (cap : Nat) (i : Nat) (x a : Int) (oa : Bool) (w : World) (hl : l.length ≤ 1000) (hi : i < l.length)
    (hr : RowG w (.slice ao l.length cap) 6 l.length (rowN l)) (hn : l[i]? = some ⟨4, x, 0, 0, 0, 0⟩) (CX : ∀ w, RowG w (.slice ao l.length cap) 6 l.length (rowN l) → Calls Try.prog 47 #[.slice ao l.length cap, .int .i64 x] w fun e w' => e = .returned (.tuple #[.int .i64 a, .bool oa]) ∧ Below w.heap.size w w') :
    Calls Try.prog 47 #[.slice ao l.length cap, .int .i64 (i : Int)] w fun e w' => e = .returned (.tuple #[.int .i64 (tyR 4 a a oa oa).1, .bool (tyR 4 a a oa oa).2]) ∧ Below w.heap.size w w' := by
  obtain ⟨g, off, rfl, hnode, l1, l2, l3⟩ := rowN_node hr i hi
  rw [(List.getElem?_eq_some_iff.1 hn).2] at hnode
  obtain ⟨n0, n1, n2, n3, n4, n5⟩ := hnode
  simp only at n0 n1 n2 n3 n4 n5
  have HR := hidE hr
  have HCX := hidE CX
  clear hr CX hn
  unfold maxLen at l2
  have HW : Hid (Below w.heap.size w (w.alloc (.cells #[.int .i64 4, .int .i64 x, .int .i64 0, .int .i64 0, .int .i64 0, .int .i64 0] 50))) := (Below.refl _ _).alloc (Nat.le_refl _) _
  go_enter Try.func47, Try.ntmps47
  go_wp2_with fail
  refine (HCX.out _ (rowG_below HR.out HW.out)).mono ?_
  rintro e w1 ⟨rfl, hb⟩
  have HB := hidE hb
  obtain ⟨hc, hf⟩ := bcell hb
  clear hb
  cases oa
  · go_wp2_with (go_at_call 18; refine (rarity_any _ _).mono ?_; rintro e w' ⟨rfl, hw⟩; subst w')
    go_ret2
    exact ⟨rfl, done HW.out HB⟩
  · cases hp : (a != 0) <;> cases hq : (a != 2)
    all_goals
      have hw : wantT 4 = 2 := by decide
      first
      | (have HX : Hid (tyR 4 a a true true = (0, false)) := (by show _ = _; unfold tyR; simp only [hw, hp, hq]; rfl)
         clear hw
         go_wp2_with (go_at_call 18; refine (rarity_any _ _).mono ?_; rintro e w' ⟨rfl, hw⟩; subst w')
         all_goals (go_ret2; exact ⟨by rw [HX.out]; rfl, done HW.out HB⟩))
      | (have HX : Hid (tyR 4 a a true true = (2, true)) := (by show _ = _; unfold tyR; simp only [hw, hp, hq]; rfl)
         clear hw
         go_wp2_with (go_at_call 18; refine (rarity_any _ _).mono ?_; rintro e w' ⟨rfl, hw⟩; subst w')
         all_goals (go_ret2; exact ⟨by rw [HX.out]; rfl, done HW.out HB⟩))
set_option maxRecDepth 100000 in
set_option maxHeartbeats 8000000 in
theorem rta_5 (l : List Nd) (ao : Option Addr) (cap : Nat) (i : Nat) (x a : Int) (oa : Bool) (w : World) (hl : l.length ≤ 1000) (hi : i < l.length)
    (hr : RowG w (.slice ao l.length cap) 6 l.length (rowN l)) (hn : l[i]? = some ⟨5, x, 0, 0, 0, 0⟩) (CX : ∀ w, RowG w (.slice ao l.length cap) 6 l.length (rowN l) → Calls Try.prog 47 #[.slice ao l.length cap, .int .i64 x] w fun e w' => e = .returned (.tuple #[.int .i64 a, .bool oa]) ∧ Below w.heap.size w w') :
    Calls Try.prog 47 #[.slice ao l.length cap, .int .i64 (i : Int)] w fun e w' => e = .returned (.tuple #[.int .i64 (tyR 5 a a oa oa).1, .bool (tyR 5 a a oa oa).2]) ∧ Below w.heap.size w w' := by
  obtain ⟨g, off, rfl, hnode, l1, l2, l3⟩ := rowN_node hr i hi
  rw [(List.getElem?_eq_some_iff.1 hn).2] at hnode
  obtain ⟨n0, n1, n2, n3, n4, n5⟩ := hnode
  simp only at n0 n1 n2 n3 n4 n5
  have HR := hidE hr
  have HCX := hidE CX
  clear hr CX hn
  unfold maxLen at l2
  have HW : Hid (Below w.heap.size w (w.alloc (.cells #[.int .i64 5, .int .i64 x, .int .i64 0, .int .i64 0, .int .i64 0, .int .i64 0] 50))) := (Below.refl _ _).alloc (Nat.le_refl _) _
  go_enter Try.func47, Try.ntmps47
  go_wp2_with fail
  refine (HCX.out _ (rowG_below HR.out HW.out)).mono ?_
  rintro e w1 ⟨rfl, hb⟩
  have HB := hidE hb
  obtain ⟨hc, hf⟩ := bcell hb
  clear hb
  cases oa
  all_goals
    go_wp2_with (go_at_call 18; refine (rarity_any _ _).mono ?_; rintro e w' ⟨rfl, hw⟩; subst w')
    go_ret2
    exact ⟨rfl, done HW.out HB⟩
set_option maxRecDepth 100000 in
set_option maxHeartbeats 8000000 in
theorem rta_6 (l : List Nd) (ao : Option Addr) (cap : Nat) (i : Nat) (x y a b : Int) (oa ob : Bool) (w : World) (hl : l.length ≤ 1000) (hi : i < l.length)
    (hr : RowG w (.slice ao l.length cap) 6 l.length (rowN l)) (hn : l[i]? = some ⟨6, x, y, 0, 0, 0⟩) (CX : ∀ w, RowG w (.slice ao l.length cap) 6 l.length (rowN l) → Calls Try.prog 47 #[.slice ao l.length cap, .int .i64 x] w fun e w' => e = .returned (.tuple #[.int .i64 a, .bool oa]) ∧ Below w.heap.size w w') (CY : ∀ w, RowG w (.slice ao l.length cap) 6 l.length (rowN l) → Calls Try.prog 47 #[.slice ao l.length cap, .int .i64 y] w fun e w' => e = .returned (.tuple #[.int .i64 b, .bool ob]) ∧ Below w.heap.size w w') :
    Calls Try.prog 47 #[.slice ao l.length cap, .int .i64 (i : Int)] w fun e w' => e = .returned (.tuple #[.int .i64 (tyR 6 a b oa ob).1, .bool (tyR 6 a b oa ob).2]) ∧ Below w.heap.size w w' := by
  obtain ⟨g, off, rfl, hnode, l1, l2, l3⟩ := rowN_node hr i hi
  rw [(List.getElem?_eq_some_iff.1 hn).2] at hnode
  obtain ⟨n0, n1, n2, n3, n4, n5⟩ := hnode
  simp only at n0 n1 n2 n3 n4 n5
  have HR := hidE hr
  have HCX := hidE CX
  have HCY := hidE CY
  clear hr CX CY hn
  unfold maxLen at l2
  have HW : Hid (Below w.heap.size w (w.alloc (.cells #[.int .i64 6, .int .i64 x, .int .i64 y, .int .i64 0, .int .i64 0, .int .i64 0] 50))) := (Below.refl _ _).alloc (Nat.le_refl _) _
  go_enter Try.func47, Try.ntmps47
  go_wp2_with fail
  refine (HCX.out _ (rowG_below HR.out HW.out)).mono ?_
  rintro e w1 ⟨rfl, hb⟩
  have HB := hidE hb
  obtain ⟨hc, hf⟩ := bcell hb
  clear hb
  go_wp2_with (go_at_call 18; refine (rarity_any _ _).mono ?_; rintro e w' ⟨rfl, hw⟩; subst w')
  refine (HCY.out _ (rowG_below (rowG_below HR.out HW.out) HB.out)).mono ?_
  rintro e w2 ⟨rfl, hb⟩
  have HB := nxt HB hb
  obtain ⟨hc, hf⟩ := rules HB
  clear hb
  cases oa
  · cases ob
    all_goals
      go_wp2_with fail
      go_ret2
      exact ⟨rfl, done HW.out HB⟩
  · cases ob
    · go_wp2_with fail
      go_ret2
      exact ⟨rfl, done HW.out HB⟩
    · cases hp : (a != 0) <;> cases hq : (a != 1) <;> cases hs : (b != 0) <;> cases ht : (b != 1)
      all_goals
        have hw : wantT 6 = 1 := by decide
        first
        | (have HX : Hid (tyR 6 a b true true = (0, false)) := (by show _ = _; unfold tyR; simp only [hw, hp, hq, hs, ht]; rfl)
           clear hw
           go_wp2_with fail
           all_goals (go_ret2; exact ⟨by rw [HX.out]; rfl, done HW.out HB⟩))
        | (have HX : Hid (tyR 6 a b true true = (1, true)) := (by show _ = _; unfold tyR; simp only [hw, hp, hq, hs, ht]; rfl)
           clear hw
           go_wp2_with fail
           all_goals (go_ret2; exact ⟨by rw [HX.out]; rfl, done HW.out HB⟩))
end Go.Proofs.Ytepfpmagppckeaa

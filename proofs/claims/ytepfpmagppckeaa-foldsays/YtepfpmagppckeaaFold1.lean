/- The contracts of package fold's small functions, over this seat's translation. Conditions: as named. -/
import Derived.Test.YtepfpmagppckeaaFoldSem
import Derived.Test.YtepfpmagppckeaaTopJ
import Derived.Test.YtepfpmagppckeaaExprT2
namespace Go.Proofs.Ytepfpmagppckeaa
open Go.ChangeShapes Go.WideShapes Go.ChangeAt Go.RowKit
set_option linter.unusedVariables false
set_option linter.unusedSimpArgs false
attribute [local go_sem ↓] eql_value neq_value

/-- a slice that holds a tree, laid out -/
abbrev RowT (w : World) (u : Value) (t : Ex) : Prop := RowG w u 6 (flat t).length (rowN (flat t))

theorem eql_nodes_nil (w : World) (a : Addr) (n c : Nat) : (binOp .eql 33 (.slice (some a) n c) (.slice none 0 0)).run Try.prog w = .ok (.bool false) w := by kernel_rfl
theorem eql_nodes_nil2 (w : World) : (binOp .eql 33 (.slice none 0 0) (.slice none 0 0)).run Try.prog w = .ok (.bool true) w := by kernel_rfl

theorem isConst_any (t : Ex) (u : Value) (w : World) (hl : (flat t).length ≤ 1000) (hr : RowT w u t) :
    Calls Try.prog 69 #[u] w fun e w' => e = .returned (.bool (isC t)) ∧ w' = w := by
  obtain ⟨ao, cap, rfl⟩ := rowG_shape hr
  by_cases h1 : (flat t).length = 1
  · obtain ⟨g, off, rfl, hn, q1, q2, q3⟩ := rowN_node hr 0 (by omega)
    have c0 : w.cell? ⟨g, off, none⟩ = some (.int .i64 (flat t)[0].op) := by have := hn.1; simpa using this
    have hop : ((flat t)[0].op == 1) = isC t := by
      cases t with
      | cst k v => rfl
      | fld n => rfl
      | one op a =>
        exfalso
        have := flat_pos a
        have h9 : (flat (.one op a)).length = (flat a).length + 1 := by simp [flat, join1]
        omega
      | two op a b =>
        exfalso
        have := flat_pos a
        have h9 : (flat (.two op a b)).length = (flat a).length + (flat b).length + 1 := by simp [flat, joinL]; omega
        omega
    have HO := hidE hop
    rw [← hop]
    clear hop hn hr
    generalize ((flat t)[0].op) = o at *
    rw [h1]
    rw [h1] at q1
    unfold maxLen at q2
    go_enter Try.func69, Try.ntmps69
    go_wp2_with fail
    go_ret
    exact ⟨rfl, rfl⟩
  · have hc : isC t = false := by
      cases t with
      | cst k v => exact absurd rfl h1
      | fld n => exact absurd rfl h1
      | one op a => rfl
      | two op a b => rfl
    rw [hc]
    have d : (((flat t).length : Int) == 1) = false := by simp; omega
    go_enter Try.func69, Try.ntmps69
    go_wp2_with fail
    go_ret
    exact ⟨rfl, rfl⟩

set_option maxRecDepth 100000 in
theorem constant_any (v : V2) (w : World) :
    Calls Try.prog 70 #[.agg #[.int .i64 v.1, .int .i64 v.2]] w fun e w' => ∃ u, e = .returned u ∧ RowT w' u (cstV v) ∧ Below w.heap.size w w' := by
  obtain ⟨k, n⟩ := v
  go_enter Try.func70, Try.ntmps70
  go_wp2_with fail
  go_ret
  refine ⟨_, rfl, ?_, ((Below.refl _ _).alloc (Nat.le_refl _) _).alloc (by simp) _⟩
  have h := World.ownsRow_lit (base := 0) (size := 6) (e := 50) (w.alloc (.cells #[.int .i64 k, .int .i64 n] 35)) #[.int .i64 1, .int .i64 0, .int .i64 0, .int .i64 0, .int .i64 k, .int .i64 n] 1 (Nat.zero_le _) (by decide) rfl
  have h2 := rowG_of_owns h
  simp only [World.size_alloc] at h2
  exact h2

theorem ownKind_any (op : Int) (w : World) (h : 1 ≤ op ∧ op ≤ 12) :
    Calls Try.prog 72 #[.int .i64 op] w fun e w' => e = .returned (.int .i64 (ownK op)) ∧ w' = w := by
  rcases (by omega : op = 1 ∨ op = 2 ∨ op = 3 ∨ op = 4 ∨ op = 5 ∨ op = 6 ∨ op = 7 ∨ op = 8 ∨ op = 9 ∨ op = 10 ∨ op = 11 ∨ op = 12) with rfl | rfl | rfl | rfl | rfl | rfl | rfl | rfl | rfl | rfl | rfl | rfl
  all_goals
    clear h
    go_enter Try.func72, Try.ntmps72
    go_wp2_with fail
    go_ret
    exact ⟨rfl, rfl⟩

theorem isOf_any (t : Ex) (k : Int) (u : Value) (w : World) (hl : (flat t).length ≤ 1000) (hw : Wf t) (hr : RowT w u t) :
    Calls Try.prog 71 #[u, .int .i64 k] w fun e w' => e = .returned (.bool (isO t k)) ∧ Below w.heap.size w w' := by
  have TA := type_any (flat t) u w hl hr
  rw [ty_flat t hw] at TA
  obtain ⟨ao, cap, rfl⟩ := rowG_shape hr
  rcases ht : tyT t with _ | m
  · rw [ht] at TA
    have hO : isO t k = false := by unfold isO; simp [ht]
    rw [hO]
    have TB := hidE TA
    rw [show tyP none = (0, 3) from rfl, show errC 3 = .iface 69 (.int .i64 3) from rfl] at TB
    simp only at TB
    clear TA
    go_enter Try.func71, Try.ntmps71
    go_wp2_with fail
    refine TB.out.mono ?_
    rintro e w1 ⟨rfl, hb⟩
    go_wp2_with fail
    go_ret
    exact ⟨rfl, hb⟩
  · rw [ht] at TA
    have hO : isO t k = (m == k) := by
      unfold isO
      rw [ht]
      by_cases e : m = k
      · simp [e]
      · simp [e]
    rw [hO]
    have TB := hidE TA
    rw [show tyP (some m) = (m, 0) from rfl, show errC 0 = .nilIface from rfl] at TB
    simp only at TB
    clear TA
    go_enter Try.func71, Try.ntmps71
    go_wp2_with fail
    refine TB.out.mono ?_
    rintro e w1 ⟨rfl, hb⟩
    go_wp2_with fail
    go_ret
    exact ⟨rfl, hb⟩

set_option maxRecDepth 100000 in
theorem settles_any (op : Int) (k n : Int) (w : World) :
    Calls Try.prog 73 #[.int .i64 op, .agg #[.int .i64 k, .int .i64 n]] w fun e w' => e = .returned (.bool (setl op (k, n))) ∧ Below w.heap.size w w' := by
  have H1 : Hid (Below w.heap.size w (w.alloc (.cells #[.int .i64 k, .int .i64 n] 35))) := (Below.refl _ _).alloc (Nat.le_refl _) _
  have c0 : (w.alloc (.cells #[.int .i64 k, .int .i64 n] 35)).cell? ⟨w.heap.size, 0, none⟩ = some (.int .i64 k) := by go_simp
  have c1 : (w.alloc (.cells #[.int .i64 k, .int .i64 n] 35)).cell? ⟨w.heap.size, 1, none⟩ = some (.int .i64 n) := by go_simp
  have lw : w.heap.size < (w.alloc (.cells #[.int .i64 k, .int .i64 n] 35)).heap.size := by simp
  have HR9 : Hid (Below (w.alloc (.cells #[.int .i64 k, .int .i64 n] 35)).heap.size (w.alloc (.cells #[.int .i64 k, .int .i64 n] 35)) (w.alloc (.cells #[.int .i64 k, .int .i64 n] 35))) := Below.refl _ _
  unfold setl
  by_cases h9 : op = 9
  · subst h9
    rw [if_pos rfl]
    go_enter Try.func73, Try.ntmps73
    go_wp2_with fail
    generalize (w.alloc (.cells #[.int .i64 k, .int .i64 n] 35)) = wx at *
    have kn := kin_some wx
    obtain ⟨kc, kf⟩ := kin_rules wx
    refine wp_region_kin HR9 (by kernel_rfl) (by kernel_rfl) ?_
    repeat (go_big_quiet_step ((go_at_call 32; exact kin_of (truth_bb _ _))))
    refine wpQuiet_nil ?_
    rintro _ ⟨pk, rfl⟩
    have HP := pk.h
    go_wp2_with fail
    go_ret
    exact ⟨rfl, H1.out.trans (HP.mono H1.out.size)⟩
  · rw [if_neg h9]
    have d9 : (op == 9) = false := by simp [h9]
    by_cases h10 : op = 10
    · subst h10
      rw [if_pos rfl]
      go_enter Try.func73, Try.ntmps73
      go_wp2_with fail
      generalize (w.alloc (.cells #[.int .i64 k, .int .i64 n] 35)) = wx at *
      have kn := kin_some wx
      obtain ⟨kc, kf⟩ := kin_rules wx
      refine wp_region_kin HR9 (by kernel_rfl) (by kernel_rfl) ?_
      repeat (go_big_quiet_step ((go_at_call 32; exact kin_of (truth_bb _ _))))
      refine wpQuiet_nil ?_
      rintro _ ⟨pk, rfl⟩
      have HP := pk.h
      go_wp2_with fail
      go_ret
      exact ⟨rfl, H1.out.trans (HP.mono H1.out.size)⟩
    · rw [if_neg h10]
      have d10 : (op == 10) = false := by simp [h10]
      go_enter Try.func73, Try.ntmps73
      go_wp2_with fail
      go_ret
      exact ⟨by simp [bne], H1.out⟩

set_option maxRecDepth 100000 in
theorem settled_any (op : Int) (k n : Int) (w : World) :
    Calls Try.prog 74 #[.int .i64 op, .agg #[.int .i64 k, .int .i64 n]] w fun e w' => e = .returned (.agg #[.int .i64 (setd op (k, n)).1, .int .i64 (setd op (k, n)).2]) ∧ Below w.heap.size w w' := by
  unfold setd
  by_cases h9 : op = 9
  · subst h9
    rw [if_pos (by omega)]
    go_enter Try.func74, Try.ntmps74
    go_wp2_with fail
    refine bodyPost_ret (v := .agg #[.int .i64 k, .int .i64 n]) (by simp [results, Try.results74, go_sem]) rfl ⟨rfl, ?_⟩
    repeat (first | exact Below.refl _ _ | refine Below.alloc ?_ (by first | (simp; done) | (simp; omega)) _ | refine Below.setCell ?_ (by first | (simp; done) | (simp; omega)) _)
  · have d9 : (op == 9) = false := by simp [h9]
    by_cases h10 : op = 10
    · subst h10
      rw [if_pos (by omega)]
      go_enter Try.func74, Try.ntmps74
      go_wp2_with fail
      refine bodyPost_ret (v := .agg #[.int .i64 k, .int .i64 n]) (by simp [results, Try.results74, go_sem]) rfl ⟨rfl, ?_⟩
      repeat (first | exact Below.refl _ _ | refine Below.alloc ?_ (by first | (simp; done) | (simp; omega)) _ | refine Below.setCell ?_ (by first | (simp; done) | (simp; omega)) _)
    · rw [if_neg (by omega)]
      have d10 : (op == 10) = false := by simp [h10]
      go_enter Try.func74, Try.ntmps74
      go_wp2_with fail
      refine (null_any _).mono ?_
      rintro e w1 ⟨rfl, rfl⟩
      go_wp2_with fail
      refine bodyPost_ret (v := .agg #[.int .i64 0, .int .i64 0]) (by simp [results, Try.results74, go_sem]) rfl ⟨rfl, ?_⟩
      repeat (first | exact Below.refl _ _ | refine Below.alloc ?_ (by first | (simp; done) | (simp; omega)) _ | refine Below.setCell ?_ (by first | (simp; done) | (simp; omega)) _)

set_option maxRecDepth 100000 in
theorem idleAhead_any (op : Int) (k n : Int) (w : World) :
    Calls Try.prog 75 #[.int .i64 op, .agg #[.int .i64 k, .int .i64 n]] w fun e w' => e = .returned (.bool (idlA op (k, n))) ∧ Below w.heap.size w w' := by
  have H1 : Hid (Below w.heap.size w (w.alloc (.cells #[.int .i64 k, .int .i64 n] 35))) := (Below.refl _ _).alloc (Nat.le_refl _) _
  have c0 : (w.alloc (.cells #[.int .i64 k, .int .i64 n] 35)).cell? ⟨w.heap.size, 0, none⟩ = some (.int .i64 k) := by go_simp
  have c1 : (w.alloc (.cells #[.int .i64 k, .int .i64 n] 35)).cell? ⟨w.heap.size, 1, none⟩ = some (.int .i64 n) := by go_simp
  have lw : w.heap.size < (w.alloc (.cells #[.int .i64 k, .int .i64 n] 35)).heap.size := by simp
  have HR9 : Hid (Below (w.alloc (.cells #[.int .i64 k, .int .i64 n] 35)).heap.size (w.alloc (.cells #[.int .i64 k, .int .i64 n] 35)) (w.alloc (.cells #[.int .i64 k, .int .i64 n] 35))) := Below.refl _ _
  unfold idlA
  by_cases h9 : op = 9
  · subst h9
    rw [if_pos rfl]
    go_enter Try.func75, Try.ntmps75
    go_wp2_with fail
    generalize (w.alloc (.cells #[.int .i64 k, .int .i64 n] 35)) = wx at *
    have kn := kin_some wx
    obtain ⟨kc, kf⟩ := kin_rules wx
    refine wp_region_kin HR9 (by kernel_rfl) (by kernel_rfl) ?_
    repeat (go_big_quiet_step ((go_at_call 32; exact kin_of (truth_bb _ _))))
    refine wpQuiet_nil ?_
    rintro _ ⟨pk, rfl⟩
    have HP := pk.h
    go_wp2_with fail
    go_ret
    exact ⟨rfl, H1.out.trans (HP.mono H1.out.size)⟩
  rw [if_neg h9]
  have d9 : (op == 9) = false := by simp [h9]
  by_cases h10 : op = 10
  · subst h10
    rw [if_pos rfl]
    go_enter Try.func75, Try.ntmps75
    go_wp2_with fail
    generalize (w.alloc (.cells #[.int .i64 k, .int .i64 n] 35)) = wx at *
    have kn := kin_some wx
    obtain ⟨kc, kf⟩ := kin_rules wx
    refine wp_region_kin HR9 (by kernel_rfl) (by kernel_rfl) ?_
    repeat (go_big_quiet_step ((go_at_call 32; exact kin_of (truth_bb _ _))))
    refine wpQuiet_nil ?_
    rintro _ ⟨pk, rfl⟩
    have HP := pk.h
    go_wp2_with fail
    go_ret
    exact ⟨rfl, H1.out.trans (HP.mono H1.out.size)⟩
  rw [if_neg h10]
  have d10 : (op == 10) = false := by simp [h10]
  by_cases h6 : op = 6
  · subst h6
    rw [if_pos rfl]
    go_enter Try.func75, Try.ntmps75
    go_wp2_with fail
    generalize (w.alloc (.cells #[.int .i64 k, .int .i64 n] 35)) = wx at *
    have kn := kin_some wx
    obtain ⟨kc, kf⟩ := kin_rules wx
    refine wp_region_kin HR9 (by kernel_rfl) (by kernel_rfl) ?_
    repeat (go_big_quiet_step ((go_at_call 38; exact kin_of (number_any _ _))))
    refine wpQuiet_nil ?_
    rintro _ ⟨pk, rfl⟩
    have HP := pk.h
    go_wp2_with fail
    go_ret
    exact ⟨rfl, H1.out.trans (HP.mono H1.out.size)⟩
  rw [if_neg h6]
  have d6 : (op == 6) = false := by simp [h6]
  by_cases h8 : op = 8
  · subst h8
    rw [if_pos rfl]
    go_enter Try.func75, Try.ntmps75
    go_wp2_with fail
    generalize (w.alloc (.cells #[.int .i64 k, .int .i64 n] 35)) = wx at *
    have kn := kin_some wx
    obtain ⟨kc, kf⟩ := kin_rules wx
    refine wp_region_kin HR9 (by kernel_rfl) (by kernel_rfl) ?_
    repeat (go_big_quiet_step ((go_at_call 38; exact kin_of (number_any _ _))))
    refine wpQuiet_nil ?_
    rintro _ ⟨pk, rfl⟩
    have HP := pk.h
    go_wp2_with fail
    go_ret
    exact ⟨rfl, H1.out.trans (HP.mono H1.out.size)⟩
  rw [if_neg h8]
  have d8 : (op == 8) = false := by simp [h8]
  go_enter Try.func75, Try.ntmps75
  go_wp2_with fail
  go_ret
  exact ⟨rfl, H1.out⟩

set_option maxRecDepth 100000 in
theorem idleBehind_any (op : Int) (k n : Int) (w : World) :
    Calls Try.prog 76 #[.int .i64 op, .agg #[.int .i64 k, .int .i64 n]] w fun e w' => e = .returned (.bool (idlB op (k, n))) ∧ Below w.heap.size w w' := by
  have H1 : Hid (Below w.heap.size w (w.alloc (.cells #[.int .i64 k, .int .i64 n] 35))) := (Below.refl _ _).alloc (Nat.le_refl _) _
  have c0 : (w.alloc (.cells #[.int .i64 k, .int .i64 n] 35)).cell? ⟨w.heap.size, 0, none⟩ = some (.int .i64 k) := by go_simp
  have c1 : (w.alloc (.cells #[.int .i64 k, .int .i64 n] 35)).cell? ⟨w.heap.size, 1, none⟩ = some (.int .i64 n) := by go_simp
  have lw : w.heap.size < (w.alloc (.cells #[.int .i64 k, .int .i64 n] 35)).heap.size := by simp
  have HR9 : Hid (Below (w.alloc (.cells #[.int .i64 k, .int .i64 n] 35)).heap.size (w.alloc (.cells #[.int .i64 k, .int .i64 n] 35)) (w.alloc (.cells #[.int .i64 k, .int .i64 n] 35))) := Below.refl _ _
  have IA := hidE (fun w => idleAhead_any op k n w)
  unfold idlB
  generalize hA : idlA op (k, n) = A at *
  have N0 : Hid (∀ w, Calls Try.prog 38 #[.int .i64 0] w fun e w' => e = .returned (.agg #[.int .i64 1, .int .i64 0]) ∧ Below w.heap.size w w') := fun w => number_any 0 w
  clear hA
  by_cases h7 : op = 7
  · subst h7
    by_cases hv : k = 1 ∧ n = 0
    · obtain ⟨rfl, rfl⟩ := hv
      go_enter Try.func76, Try.ntmps76
      go_wp2_with fail
      generalize (w.alloc (.cells #[.int .i64 1, .int .i64 0] 35)) = wx at *
      have kn := kin_some wx
      obtain ⟨kc, kf⟩ := kin_rules wx
      refine wp_region_kin HR9 (by kernel_rfl) (by kernel_rfl) ?_
      repeat (go_big_quiet_step ((go_at_call 38; exact kin_of (N0.out _))))
      refine wpQuiet_nil ?_
      rintro _ ⟨pk, rfl⟩
      have HP := pk.h
      go_wp2_with fail
      go_ret
      exact ⟨rfl, H1.out.trans (HP.mono H1.out.size)⟩
    · have dv : (k == 1 && n == 0) = false := by simp; omega
      rw [show (((7 : Int) == 7) && (k == 1 && n == 0) || A) = A from by rw [dv]; rfl]
      go_enter Try.func76, Try.ntmps76
      go_wp2_with fail
      generalize (w.alloc (.cells #[.int .i64 k, .int .i64 n] 35)) = wx at *
      have kn := kin_some wx
      obtain ⟨kc, kf⟩ := kin_rules wx
      refine wp_region_kin HR9 (by kernel_rfl) (by kernel_rfl) ?_
      repeat (go_big_quiet_step ((first | (go_at_call 38; exact kin_of (N0.out _)) | (go_at_call 75; exact kin_of (IA.out _)))))
      refine wpQuiet_nil ?_
      rintro _ ⟨pk, rfl⟩
      have HP := pk.h
      go_wp2_with fail
      go_ret
      exact ⟨rfl, H1.out.trans (HP.mono H1.out.size)⟩
  · have d7 : (op == 7) = false := by simp [h7]
    rw [show ((op == 7) && (k == 1 && n == 0) || A) = A from by rw [d7]; rfl]
    go_enter Try.func76, Try.ntmps76
    go_wp2_with fail
    generalize (w.alloc (.cells #[.int .i64 k, .int .i64 n] 35)) = wx at *
    have kn := kin_some wx
    obtain ⟨kc, kf⟩ := kin_rules wx
    refine wp_region_kin HR9 (by kernel_rfl) (by kernel_rfl) ?_
    repeat (go_big_quiet_step ((first | (go_at_call 38; exact kin_of (N0.out _)) | (go_at_call 75; exact kin_of (IA.out _)))))
    refine wpQuiet_nil ?_
    rintro _ ⟨pk, rfl⟩
    have HP := pk.h
    go_wp2_with fail
    go_ret
    exact ⟨rfl, H1.out.trans (HP.mono H1.out.size)⟩
end Go.Proofs.Ytepfpmagppckeaa

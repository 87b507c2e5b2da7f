/- The contracts of fold.folded and of Fold, over this seat's translation. Conditions: as named. -/
import Derived.Test.YtepfpmagppckeaaFold3
namespace Go.Proofs.Ytepfpmagppckeaa
open Go.ChangeShapes Go.WideShapes Go.ChangeAt Go.RowKit
set_option linter.unusedVariables false
set_option linter.unusedSimpArgs false

/-- the contract of folded at a tree -/
def FoldOk (t : Ex) : Prop := Wf t → (flat t).length ≤ 50 → ∀ (u : Value) (w : World), RowT w u t →
  Calls Try.prog 54 #[u] w fun e w' => ∃ u', e = .returned u' ∧ RowT w' u' (foldT t) ∧ Below w.heap.size w w'

theorem node_cells {w : World} {t : Ex} {ao : Option Addr} {cap m : Nat} (h : RowT w (.slice ao (flat t).length cap) t) (hm : (flat t).length = m + 1) :
    ∃ g off, ao = some ⟨g, off, none⟩ ∧ NodeAt w g (off + m * 6) (rootN t) ∧ (flat t).length ≤ cap ∧ cap ≤ maxLen ∧ g < w.heap.size := by
  obtain ⟨g, off, e, hn, q1, q2, q3⟩ := rowN_node h m (by omega)
  have hnode : (flat t)[m] = rootN t := by
    have := root_at t m hm
    rw [List.getElem?_eq_getElem (by omega)] at this
    simpa using this
  rw [hnode] at hn
  exact ⟨g, off, e, hn, q1, q2, q3⟩

set_option maxRecDepth 100000 in
theorem folded_leaf (t : Ex) (h : ar (rootN t).op = 0) (hf : foldT t = t) : FoldOk t := by
  intro hw hl u w hr
  obtain ⟨m, hm⟩ : ∃ m, (flat t).length = m + 1 := ⟨(flat t).length - 1, by have := flat_pos t; omega⟩
  have m50 : m ≤ 50 := by omega
  have CL := hidE (fun w1 u1 (h : RowT w1 u1 t) => cloneN_any (flat t) u1 w1 (by omega) (by omega) h)
  obtain ⟨ao, cap, rfl⟩ := rowG_shape hr
  obtain ⟨g, off, rfl, hn, q1, q2, q3⟩ := node_cells hr hm
  have RL := hidE hr
  unfold maxLen at q2
  rw [hf]
  rw [hm] at RL q1 ⊢
  clear hm hr hf
  obtain ⟨n0, n1, n2, n3, n4, n5⟩ := hn
  have AR := hidE (fun w => arity_any (rootN t).op w)
  rw [h] at AR
  clear h
  generalize rootN t = rn at *
  obtain ⟨rop, rx, ry, rnn, rk, rv⟩ := rn
  simp only at n0 n1 n2 n3 n4 n5 AR
  have hA := (Below.refl w.heap.size w).alloc (Nat.le_refl _) (.cells #[.int .i64 rop, .int .i64 rx, .int .i64 ry, .int .i64 rnn, .int .i64 rk, .int .i64 rv] 50)
  have RL := hidE (rowG_below RL.out hA)
  have HB := hidE hA
  clear hA
  go_enter Try.func54, Try.ntmps54
  go_wp2_with fail
  refine (AR.out _).mono ?_
  rintro e w1 ⟨rfl, rfl⟩
  go_wp2_with fail
  refine (CL.out _ _ RL.out).mono ?_
  rintro e w2 ⟨u2, rfl, hr2, hb⟩
  have HB := nxt HB hb
  obtain ⟨ao2, cap2, rfl⟩ := rowG_shape hr2
  clear hb
  go_wp2_with fail
  go_ret
  exact ⟨_, rfl, hr2, HB.out⟩

set_option maxRecDepth 100000 in
set_option maxHeartbeats 1000000 in
theorem folded_one (op : Int) (a : Ex) (ih : FoldOk a) : FoldOk (.one op a) := by
  intro hw hl u w hr
  obtain ⟨m, hm⟩ : ∃ m, (flat (.one op a)).length = m + 1 := ⟨(flat (.one op a)).length - 1, by have := flat_pos (.one op a); omega⟩
  have m50 : m ≤ 50 := by omega
  have hlen : (flat (.one op a)).length = (flat a).length + 1 := by simp [flat, join1]
  have pa := flat_pos a
  obtain ⟨bs, hg, hcut⟩ := cut_one hw
  obtain ⟨ao, cap, rfl⟩ := rowG_shape hr
  obtain ⟨g, off, rfl, hn, q1, q2, q3⟩ := node_cells hr hm
  have CU := hidE (fun w1 (h : RowT w1 (.slice (some ⟨g, off, none⟩) (flat (.one op a)).length cap) (.one op a)) => cut_any (flat (.one op a)) bs ((flat a).length - 1) _ w1 (by omega) hg (by omega) h (flat_mvb hw (by omega)))
  rw [hcut] at CU
  have IA := hidE (fun u1 w1 (h : RowT w1 u1 a) => ih hw.2 (by omega) u1 w1 h)
  have FO := hidE (fun u1 w1 (h : RowT w1 u1 (foldT a)) => foldOne_any op (foldT a) u1 w1 hw.1 (foldT_wf a hw.2) (by have := foldT_len a; omega) h)
  have AR := hidE (fun w => arity_any op w)
  rw [show ar op = 1 from hw.1] at AR
  have RL := hidE hr
  have HF : Hid (foldT (.one op a) = fold1 op (foldT a)) := rfl
  unfold maxLen at q2
  obtain ⟨z0, z1, z2, z3, z4, z5⟩ := hn
  have dx : ((rootN (.one op a)).x) = (((flat a).length - 1 : Nat) : Int) := by show ((flat a).length : Int) - 1 = _; omega
  rw [dx] at z1
  have n0 : w.cell? ⟨g, off + m * 6, none⟩ = some (.int .i64 op) := z0
  have n1 : w.cell? ⟨g, off + m * 6 + 1, none⟩ = some (.int .i64 (((flat a).length - 1 : Nat) : Int)) := z1
  have n2 : w.cell? ⟨g, off + m * 6 + 2, none⟩ = some (.int .i64 0) := z2
  have n3 : w.cell? ⟨g, off + m * 6 + 3, none⟩ = some (.int .i64 0) := z3
  have n4 : w.cell? ⟨g, off + m * 6 + 4, none⟩ = some (.int .i64 0) := z4
  have n5 : w.cell? ⟨g, off + m * 6 + 5, none⟩ = some (.int .i64 0) := z5
  rw [hm] at RL q1 CU ⊢
  clear hm hr hcut hg hlen pa dx ih hl z0 z1 z2 z3 z4 z5
  generalize hie : (flat a).length - 1 = ie at *
  clear hie
  have hA := (Below.refl w.heap.size w).alloc (Nat.le_refl _) (.cells #[.int .i64 op, .int .i64 (ie : Int), .int .i64 0, .int .i64 0, .int .i64 0, .int .i64 0] 50)
  have RL := hidE (rowG_below RL.out hA)
  have HB := hidE hA
  have c0 : (w.alloc (.cells #[.int .i64 op, .int .i64 (ie : Int), .int .i64 0, .int .i64 0, .int .i64 0, .int .i64 0] 50)).cell? ⟨w.heap.size, 0, none⟩ = some (.int .i64 op) := by go_simp
  have c1 : (w.alloc (.cells #[.int .i64 op, .int .i64 (ie : Int), .int .i64 0, .int .i64 0, .int .i64 0, .int .i64 0] 50)).cell? ⟨w.heap.size, 1, none⟩ = some (.int .i64 (ie : Int)) := by go_simp
  have hbl : w.heap.size < (w.alloc (.cells #[.int .i64 op, .int .i64 (ie : Int), .int .i64 0, .int .i64 0, .int .i64 0, .int .i64 0] 50)).heap.size := by simp
  clear hA
  go_enter Try.func54, Try.ntmps54
  go_wp2_with fail
  refine (AR.out _).mono ?_
  rintro e w1 ⟨rfl, rfl⟩
  go_wp2_with fail
  · generalize hwx : (w.alloc (.cells #[.int .i64 op, .int .i64 (ie : Int), .int .i64 0, .int .i64 0, .int .i64 0, .int .i64 0] 50)) = wx at *
    clear hwx
    obtain ⟨b, hb0⟩ : ∃ b, w.heap.size = b := ⟨_, rfl⟩
    rw [hb0] at c0 c1 hbl
    rw [hb0]
    have hS : Below wx.heap.size wx { wx with drawn := wx.drawn + 1 } := (Below.refl _ _).drew
    have HW := hidE hS
    have RL := hidE (rowG_below RL.out hS)
    clear hb0
    refine wp_region_held (S := Below wx.heap.size wx) (by kernel_rfl) ?_
    generalize hwd : ({ wx with drawn := wx.drawn + 1 } : World) = wd0 at *
    clear hwd
    refine held_take (i := 0) (v := .pointer (some ⟨b, 0, none⟩)) (L := #[true, false, false, false, false, false, false, false, false]) rfl (by kernel_rfl) (by kernel_rfl) (by kernel_rfl) (fun c a w h => h) (Or.inl ⟨by kernel_rfl, fun wq hq => by go_simp⟩) hS (by kernel_rfl) ?_
    refine held_take (i := 1) (v := .int .i64 op) (L := #[true, true, false, false, false, false, false, false, false]) rfl (by kernel_rfl) (by kernel_rfl) (by kernel_rfl) (fun c a w h => h) (Or.inl ⟨by kernel_rfl, fun wq hq => by have q := hq.cell (p := ⟨b, 0, none⟩) hbl; rw [c0] at q; go_simp⟩) hS (by kernel_rfl) ?_
    refine held_take (i := 2) (v := .slice (some ⟨g, off, none⟩) (m + 1) cap) (L := #[true, true, true, false, false, false, false, false, false]) rfl (by kernel_rfl) (by kernel_rfl) (by kernel_rfl) (fun c a w h => h) (Or.inl ⟨by kernel_rfl, fun wq hq => by go_simp⟩) hS (by kernel_rfl) ?_
    refine held_take (i := 3) (v := .pointer (some ⟨b, 1, none⟩)) (L := #[true, true, true, true, false, false, false, false, false]) rfl (by kernel_rfl) (by kernel_rfl) (by kernel_rfl) (fun c a w h => h) (Or.inl ⟨by kernel_rfl, fun wq hq => by go_simp⟩) hS (by kernel_rfl) ?_
    refine held_take (i := 4) (v := .int .i64 (ie : Int)) (L := #[true, true, true, true, true, false, false, false, false]) rfl (by kernel_rfl) (by kernel_rfl) (by kernel_rfl) (fun c a w h => h) (Or.inl ⟨by kernel_rfl, fun wq hq => by have q := hq.cell (p := ⟨b, 1, none⟩) hbl; rw [c1] at q; go_simp⟩) hS (by kernel_rfl) ?_
    refine held_go (i := 5) (L := #[true, true, true, true, true, true, false, false, false]) (by kernel_rfl) rfl (by kernel_rfl) (by kernel_rfl) ?_
    intro K' hK
    go_simp
    refine (CU.out _ RL.out).mono ?_
    rintro e wc ⟨uwc, rfl, ho, hb⟩
    have RC := hidE (rowG_of_owns ho)
    obtain ⟨aowc, capwc, rfl⟩ := rowG_shape RC.out
    have RL := hidE (rowG_below RL.out hb)
    have HW := nxt HW hb
    refine hK _ _ ⟨HW.out, ?_⟩
    clear hK ho hb
    refine held_go (i := 6) (L := #[true, true, true, true, true, true, true, false, false]) (by kernel_rfl) rfl (by kernel_rfl) (by kernel_rfl) ?_
    intro K' hK
    go_simp
    refine (IA.out _ _ RC.out).mono ?_
    rintro e wf ⟨uwf, rfl, ho, hb⟩
    have RF := hidE (ho)
    obtain ⟨aowf, capwf, rfl⟩ := rowG_shape RF.out
    have RL := hidE (rowG_below RL.out hb)
    have HW := nxt HW hb
    refine hK _ _ ⟨HW.out, ?_⟩
    clear hK ho hb
    refine held_go (i := 7) (L := #[true, true, true, true, true, true, true, true, false]) (by kernel_rfl) rfl (by kernel_rfl) (by kernel_rfl) ?_
    intro K' hK
    go_simp
    refine (FO.out _ _ RF.out).mono ?_
    rintro e wo ⟨uwo, rfl, ho, hb⟩
    have RO := hidE (ho)
    obtain ⟨aowo, capwo, rfl⟩ := rowG_shape RO.out
    have RL := hidE (rowG_below RL.out hb)
    have HW := nxt HW hb
    refine hK _ _ ⟨HW.out, ?_⟩
    clear hK ho hb
    refine held_go (i := 8) (L := #[true, true, true, true, true, true, true, true, true]) (by kernel_rfl) rfl (by kernel_rfl) (by kernel_rfl) ?_
    intro K' hK
    go_simp
    refine hK _ _ ⟨HW.out, ?_⟩
    clear hK
    refine wpAnyH_done (by kernel_rfl) ?_ _
    go_wp2_with fail
    go_ret
    exact ⟨_, rfl, by rw [HF.out]; exact RO.out, done HB.out HW⟩

set_option maxRecDepth 100000 in
set_option maxHeartbeats 1000000 in
theorem folded_two (op : Int) (a c : Ex) (ih : FoldOk a) (ih2 : FoldOk c) : FoldOk (.two op a c) := by
  intro hw hl u w hr
  obtain ⟨m, hm⟩ : ∃ m, (flat (.two op a c)).length = m + 1 := ⟨(flat (.two op a c)).length - 1, by have := flat_pos (.two op a c); omega⟩
  have m50 : m ≤ 50 := by omega
  have hlen : (flat (.two op a c)).length = (flat a).length + (flat c).length + 1 := by simp [flat, joinL]; omega
  have pa := flat_pos a
  have pc := flat_pos c
  obtain ⟨bs, hg, hcut, hcut2⟩ := cut_two_l hw
  obtain ⟨ao, cap, rfl⟩ := rowG_shape hr
  obtain ⟨g, off, rfl, hn, q1, q2, q3⟩ := node_cells hr hm
  have CU := hidE (fun w1 (h : RowT w1 (.slice (some ⟨g, off, none⟩) (flat (.two op a c)).length cap) (.two op a c)) => cut_any (flat (.two op a c)) bs ((flat a).length - 1) _ w1 (by omega) hg (by omega) h (flat_mvb hw (by omega)))
  rw [hcut] at CU
  have CV := hidE (fun w1 (h : RowT w1 (.slice (some ⟨g, off, none⟩) (flat (.two op a c)).length cap) (.two op a c)) => cut_any (flat (.two op a c)) bs ((flat a).length + (flat c).length - 1) _ w1 (by omega) hg (by omega) h (flat_mvb hw (by omega)))
  rw [hcut2] at CV
  have IA := hidE (fun u1 w1 (h : RowT w1 u1 a) => ih hw.2.1 (by omega) u1 w1 h)
  have IB := hidE (fun u1 w1 (h : RowT w1 u1 c) => ih2 hw.2.2 (by omega) u1 w1 h)
  have FT := hidE (fun u1 u2 w1 (h : RowT w1 u1 (foldT a)) (h2 : RowT w1 u2 (foldT c)) => foldTwo_any op (foldT a) (foldT c) u1 u2 w1 hw.1 (foldT_wf a hw.2.1) (foldT_wf c hw.2.2) (by have := foldT_len a; omega) (by have := foldT_len c; omega) h h2)
  have AR := hidE (fun w => arity_any op w)
  rw [show ar op = 2 from hw.1] at AR
  have RL := hidE hr
  have HF : Hid (foldT (.two op a c) = fold2 op (foldT a) (foldT c)) := rfl
  unfold maxLen at q2
  obtain ⟨z0, z1, z2, z3, z4, z5⟩ := hn
  have dx : ((rootN (.two op a c)).x) = (((flat a).length - 1 : Nat) : Int) := by show ((flat a).length : Int) - 1 = _; omega
  have dy : ((rootN (.two op a c)).y) = (((flat a).length + (flat c).length - 1 : Nat) : Int) := by show ((flat a).length : Int) + (flat c).length - 1 = _; omega
  rw [dx] at z1
  rw [dy] at z2
  have n0 : w.cell? ⟨g, off + m * 6, none⟩ = some (.int .i64 op) := z0
  have n1 : w.cell? ⟨g, off + m * 6 + 1, none⟩ = some (.int .i64 (((flat a).length - 1 : Nat) : Int)) := z1
  have n2 : w.cell? ⟨g, off + m * 6 + 2, none⟩ = some (.int .i64 (((flat a).length + (flat c).length - 1 : Nat) : Int)) := z2
  have n3 : w.cell? ⟨g, off + m * 6 + 3, none⟩ = some (.int .i64 0) := z3
  have n4 : w.cell? ⟨g, off + m * 6 + 4, none⟩ = some (.int .i64 0) := z4
  have n5 : w.cell? ⟨g, off + m * 6 + 5, none⟩ = some (.int .i64 0) := z5
  rw [hm] at RL q1 CU CV ⊢
  clear hm hr hcut hcut2 hg hlen pa pc dx dy ih ih2 hl z0 z1 z2 z3 z4 z5
  generalize hje : (flat a).length + (flat c).length - 1 = je at *
  generalize hie : (flat a).length - 1 = ie at *
  clear hie hje
  have hA := (Below.refl w.heap.size w).alloc (Nat.le_refl _) (.cells #[.int .i64 op, .int .i64 (ie : Int), .int .i64 (je : Int), .int .i64 0, .int .i64 0, .int .i64 0] 50)
  have RL := hidE (rowG_below RL.out hA)
  have HB := hidE hA
  have c0 : (w.alloc (.cells #[.int .i64 op, .int .i64 (ie : Int), .int .i64 (je : Int), .int .i64 0, .int .i64 0, .int .i64 0] 50)).cell? ⟨w.heap.size, 0, none⟩ = some (.int .i64 op) := by go_simp
  have c1 : (w.alloc (.cells #[.int .i64 op, .int .i64 (ie : Int), .int .i64 (je : Int), .int .i64 0, .int .i64 0, .int .i64 0] 50)).cell? ⟨w.heap.size, 1, none⟩ = some (.int .i64 (ie : Int)) := by go_simp
  have c2 : (w.alloc (.cells #[.int .i64 op, .int .i64 (ie : Int), .int .i64 (je : Int), .int .i64 0, .int .i64 0, .int .i64 0] 50)).cell? ⟨w.heap.size, 2, none⟩ = some (.int .i64 (je : Int)) := by go_simp
  have hbl : w.heap.size < (w.alloc (.cells #[.int .i64 op, .int .i64 (ie : Int), .int .i64 (je : Int), .int .i64 0, .int .i64 0, .int .i64 0] 50)).heap.size := by simp
  clear hA
  go_enter Try.func54, Try.ntmps54
  go_wp2_with fail
  refine (AR.out _).mono ?_
  rintro e w1 ⟨rfl, rfl⟩
  go_wp2_with fail
  · generalize hwx : (w.alloc (.cells #[.int .i64 op, .int .i64 (ie : Int), .int .i64 (je : Int), .int .i64 0, .int .i64 0, .int .i64 0] 50)) = wx at *
    clear hwx
    obtain ⟨b, hb0⟩ : ∃ b, w.heap.size = b := ⟨_, rfl⟩
    rw [hb0] at c0 c1 c2 hbl
    rw [hb0]
    have hS : Below wx.heap.size wx { wx with drawn := wx.drawn + 1 } := (Below.refl _ _).drew
    have HW := hidE hS
    have RL := hidE (rowG_below RL.out hS)
    clear hb0
    refine wp_region_held (S := Below wx.heap.size wx) (by kernel_rfl) ?_
    generalize hwd : ({ wx with drawn := wx.drawn + 1 } : World) = wd0 at *
    clear hwd
    refine held_take (i := 0) (v := .pointer (some ⟨b, 0, none⟩)) (L := #[true, false, false, false, false, false, false, false, false, false, false, false, false, false]) rfl (by kernel_rfl) (by kernel_rfl) (by kernel_rfl) (fun c a w h => h) (Or.inl ⟨by kernel_rfl, fun wq hq => by go_simp⟩) hS (by kernel_rfl) ?_
    refine held_take (i := 1) (v := .int .i64 op) (L := #[true, true, false, false, false, false, false, false, false, false, false, false, false, false]) rfl (by kernel_rfl) (by kernel_rfl) (by kernel_rfl) (fun c a w h => h) (Or.inl ⟨by kernel_rfl, fun wq hq => by have q := hq.cell (p := ⟨b, 0, none⟩) hbl; rw [c0] at q; go_simp⟩) hS (by kernel_rfl) ?_
    refine held_take (i := 2) (v := .slice (some ⟨g, off, none⟩) (m + 1) cap) (L := #[true, true, true, false, false, false, false, false, false, false, false, false, false, false]) rfl (by kernel_rfl) (by kernel_rfl) (by kernel_rfl) (fun c a w h => h) (Or.inl ⟨by kernel_rfl, fun wq hq => by go_simp⟩) hS (by kernel_rfl) ?_
    refine held_take (i := 3) (v := .pointer (some ⟨b, 1, none⟩)) (L := #[true, true, true, true, false, false, false, false, false, false, false, false, false, false]) rfl (by kernel_rfl) (by kernel_rfl) (by kernel_rfl) (fun c a w h => h) (Or.inl ⟨by kernel_rfl, fun wq hq => by go_simp⟩) hS (by kernel_rfl) ?_
    refine held_take (i := 4) (v := .int .i64 (ie : Int)) (L := #[true, true, true, true, true, false, false, false, false, false, false, false, false, false]) rfl (by kernel_rfl) (by kernel_rfl) (by kernel_rfl) (fun c a w h => h) (Or.inl ⟨by kernel_rfl, fun wq hq => by have q := hq.cell (p := ⟨b, 1, none⟩) hbl; rw [c1] at q; go_simp⟩) hS (by kernel_rfl) ?_
    refine held_take (i := 7) (v := .slice (some ⟨g, off, none⟩) (m + 1) cap) (L := #[true, true, true, true, true, false, false, true, false, false, false, false, false, false]) rfl (by kernel_rfl) (by kernel_rfl) (by kernel_rfl) (fun c a w h => h) (Or.inl ⟨by kernel_rfl, fun wq hq => by go_simp⟩) hS (by kernel_rfl) ?_
    refine held_take (i := 8) (v := .pointer (some ⟨b, 2, none⟩)) (L := #[true, true, true, true, true, false, false, true, true, false, false, false, false, false]) rfl (by kernel_rfl) (by kernel_rfl) (by kernel_rfl) (fun c a w h => h) (Or.inl ⟨by kernel_rfl, fun wq hq => by go_simp⟩) hS (by kernel_rfl) ?_
    refine held_take (i := 9) (v := .int .i64 (je : Int)) (L := #[true, true, true, true, true, false, false, true, true, true, false, false, false, false]) rfl (by kernel_rfl) (by kernel_rfl) (by kernel_rfl) (fun c a w h => h) (Or.inl ⟨by kernel_rfl, fun wq hq => by have q := hq.cell (p := ⟨b, 2, none⟩) hbl; rw [c2] at q; go_simp⟩) hS (by kernel_rfl) ?_
    refine held_go (i := 5) (L := #[true, true, true, true, true, true, false, true, true, true, false, false, false, false]) (by kernel_rfl) rfl (by kernel_rfl) (by kernel_rfl) ?_
    intro K' hK
    go_simp
    refine (CU.out _ RL.out).mono ?_
    rintro e wc ⟨uwc, rfl, ho, hb⟩
    have RC := hidE (rowG_of_owns ho)
    obtain ⟨aowc, capwc, rfl⟩ := rowG_shape RC.out
    have RL := hidE (rowG_below RL.out hb)
    have HW := nxt HW hb
    refine hK _ _ ⟨HW.out, ?_⟩
    clear hK ho hb
    refine held_go (i := 6) (L := #[true, true, true, true, true, true, true, true, true, true, false, false, false, false]) (by kernel_rfl) rfl (by kernel_rfl) (by kernel_rfl) ?_
    intro K' hK
    go_simp
    refine (IA.out _ _ RC.out).mono ?_
    rintro e wf ⟨uwf, rfl, ho, hb⟩
    have RF := hidE (ho)
    obtain ⟨aowf, capwf, rfl⟩ := rowG_shape RF.out
    have RL := hidE (rowG_below RL.out hb)
    have HW := nxt HW hb
    refine hK _ _ ⟨HW.out, ?_⟩
    clear hK ho hb
    refine held_go (i := 10) (L := #[true, true, true, true, true, true, true, true, true, true, true, false, false, false]) (by kernel_rfl) rfl (by kernel_rfl) (by kernel_rfl) ?_
    intro K' hK
    go_simp
    refine (CV.out _ RL.out).mono ?_
    rintro e wd ⟨uwd, rfl, ho, hb⟩
    have RD := hidE (rowG_of_owns ho)
    obtain ⟨aowd, capwd, rfl⟩ := rowG_shape RD.out
    have RL := hidE (rowG_below RL.out hb)
    have RF := hidE (rowG_below RF.out hb)
    have HW := nxt HW hb
    refine hK _ _ ⟨HW.out, ?_⟩
    clear hK ho hb
    refine held_go (i := 11) (L := #[true, true, true, true, true, true, true, true, true, true, true, true, false, false]) (by kernel_rfl) rfl (by kernel_rfl) (by kernel_rfl) ?_
    intro K' hK
    go_simp
    refine (IB.out _ _ RD.out).mono ?_
    rintro e wg ⟨uwg, rfl, ho, hb⟩
    have RG := hidE (ho)
    obtain ⟨aowg, capwg, rfl⟩ := rowG_shape RG.out
    have RL := hidE (rowG_below RL.out hb)
    have RF := hidE (rowG_below RF.out hb)
    have HW := nxt HW hb
    refine hK _ _ ⟨HW.out, ?_⟩
    clear hK ho hb
    refine held_go (i := 12) (L := #[true, true, true, true, true, true, true, true, true, true, true, true, true, false]) (by kernel_rfl) rfl (by kernel_rfl) (by kernel_rfl) ?_
    intro K' hK
    go_simp
    refine (FT.out _ _ _ RF.out RG.out).mono ?_
    rintro e wo ⟨uwo, rfl, ho, hb⟩
    have RO := hidE (ho)
    obtain ⟨aowo, capwo, rfl⟩ := rowG_shape RO.out
    have RL := hidE (rowG_below RL.out hb)
    have HW := nxt HW hb
    refine hK _ _ ⟨HW.out, ?_⟩
    clear hK ho hb
    refine held_go (i := 13) (L := #[true, true, true, true, true, true, true, true, true, true, true, true, true, true]) (by kernel_rfl) rfl (by kernel_rfl) (by kernel_rfl) ?_
    intro K' hK
    go_simp
    refine hK _ _ ⟨HW.out, ?_⟩
    clear hK
    refine wpAnyH_done (by kernel_rfl) ?_ _
    go_wp2_with fail
    go_ret
    exact ⟨_, rfl, by rw [HF.out]; exact RO.out, done HB.out HW⟩

theorem folded_any : ∀ t : Ex, FoldOk t
  | .cst k v => folded_leaf (.cst k v) rfl rfl
  | .fld n => folded_leaf (.fld n) rfl rfl
  | .one op a => folded_one op a (folded_any a)
  | .two op a c => folded_two op a c (folded_any a) (folded_any c)

set_option maxRecDepth 100000 in
/-- Fold of a list that may be -/
theorem Fold_any (t : Ex) (u : Value) (w : World) (hw : Wf t) (hl : (flat t).length ≤ 40) (hr : RowT w u t) :
    Calls Try.prog 31 #[u] w fun e w' => ∃ u', e = .returned u' ∧ RowT w' u' (foldT t) ∧ Below w.heap.size w w' := by
  have CK := hidE (check_any (flat t) u w (by omega) hr)
  rw [flat_chk hw hl, show errC 0 = .nilIface from rfl] at CK
  have FA := hidE (fun w1 (h : RowT w1 u t) => folded_any t hw (by omega) u w1 h)
  obtain ⟨ao, cap, rfl⟩ := rowG_shape hr
  go_enter Try.func31, Try.ntmps31
  go_wp2_with fail
  refine CK.out.mono ?_
  rintro e w1 ⟨rfl, hb⟩
  have HB := hidE hb
  go_wp2_with fail
  refine (FA.out _ (rowG_below hr hb)).mono ?_
  rintro e w2 ⟨u2, rfl, hr2, hb2⟩
  have HB := nxt HB hb2
  obtain ⟨ao2, cap2, rfl⟩ := rowG_shape hr2
  clear hb hb2
  go_wp2_with fail
  go_ret
  exact ⟨_, rfl, hr2, HB.out⟩
end Go.Proofs.Ytepfpmagppckeaa

/- Several texts in one, each with its own head. What is proved: what the parts say. Conditions: theirs. -/
import Derived.Test.YtaomljdbndajgaaGreatDoorFold3
import Derived.Test.YtaomljdbndajgaaGreatDoorBtFJ
import Derived.Test.YtaomljdbndajgaaGreatDoorPane8
/- The contracts of fold.folded and of Fold, over this seat's translation. Conditions: as named. -/
namespace Go.Proofs.YtaomljdbndajgaaGreatDoor
open Go.ChangeShapes Go.WideShapes Go.ChangeAt Go.RowKit
set_option linter.unusedVariables false
set_option linter.unusedSimpArgs false

/-- the contract of folded at a tree -/
def FoldOk (t : Ex) : Prop := Wf t → (flat t).length ≤ 50 → ∀ (u : Value) (w : World), RowT w u t →
  Calls Tryz.prog 18 #[u] w fun e w' => ∃ u', e = .returned u' ∧ RowT w' u' (foldT t) ∧ Below w.heap.size w w' ∧ FrV w.heap.size u'

theorem node_cells {w : World} {t : Ex} {ao : Option Addr} {cap m : Nat} (h : RowT w (.slice ao (flat t).length cap) t) (hm : (flat t).length = m + 1) :
    ∃ g off, ao = some ⟨g, off, none⟩ ∧ NodeAt w g (off + m * 6) (rootN t) ∧ (flat t).length ≤ cap ∧ cap ≤ maxLen ∧ g < w.heap.size := by
  obtain ⟨g, off, e, hn, q1, q2, q3⟩ := rowN_node h m (by omega)
  have hnode : (flat t)[m] = rootN t := by
    have := root_at t m hm
    rw [List.getElem?_eq_getElem (by omega)] at this
    simpa using this
  rw [hnode] at hn
  exact ⟨g, off, e, hn, q1, q2, q3⟩

set_option maxRecDepth 100000 in
theorem folded_leaf (t : Ex) (h : ar (rootN t).op = 0) (hf : foldT t = t) : FoldOk t := by
  intro hw hl u w hr
  obtain ⟨m, hm⟩ : ∃ m, (flat t).length = m + 1 := ⟨(flat t).length - 1, by have := flat_pos t; omega⟩
  have m50 : m ≤ 50 := by omega
  have CL := hidE (fun w1 u1 (h : RowT w1 u1 t) => cloneN_any (flat t) u1 w1 (by omega) (by omega) h)
  obtain ⟨ao, cap, rfl⟩ := rowG_shape hr
  obtain ⟨g, off, rfl, hn, q1, q2, q3⟩ := node_cells hr hm
  have RL := hidE hr
  unfold maxLen at q2
  rw [hf]
  rw [hm] at RL q1 ⊢
  clear hm hr hf
  obtain ⟨n0, n1, n2, n3, n4, n5⟩ := hn
  have AR := hidE (fun w => arity_any (rootN t).op w)
  rw [h] at AR
  clear h
  generalize rootN t = rn at *
  obtain ⟨rop, rx, ry, rnn, rk, rv⟩ := rn
  simp only at n0 n1 n2 n3 n4 n5 AR
  have hA := (Below.refl w.heap.size w).alloc (Nat.le_refl _) (.cells #[.int .i64 rop, .int .i64 rx, .int .i64 ry, .int .i64 rnn, .int .i64 rk, .int .i64 rv] 29)
  have RL := hidE (rowG_below RL.out hA)
  have HB := hidE hA
  clear hA
  go_enter Tryz.func18, Tryz.ntmps18
  go_wp2_with fail
  refine (AR.out _).mono ?_
  rintro e w1 ⟨rfl, rfl⟩
  go_wp2_with fail
  refine (CL.out _ _ RL.out).mono ?_
  rintro e w2 ⟨u2, rfl, hr2, hb, f2⟩
  have F2 := hidE (frV_mono f2 HB.out.size)
  clear f2
  have HB := nxt HB hb
  obtain ⟨ao2, cap2, rfl⟩ := rowG_shape hr2
  clear hb
  go_wp2_with fail
  go_ret
  exact ⟨_, rfl, hr2, HB.out, F2.out⟩

set_option maxRecDepth 100000 in
set_option maxHeartbeats 1000000 in
theorem folded_one (op : Int) (a : Ex) (ih : FoldOk a) : FoldOk (.one op a) := by
  intro hw hl u w hr
  obtain ⟨m, hm⟩ : ∃ m, (flat (.one op a)).length = m + 1 := ⟨(flat (.one op a)).length - 1, by have := flat_pos (.one op a); omega⟩
  have m50 : m ≤ 50 := by omega
  have hlen : (flat (.one op a)).length = (flat a).length + 1 := by simp [flat, join1]
  have pa := flat_pos a
  obtain ⟨bs, hg, hcut⟩ := cut_one hw
  obtain ⟨ao, cap, rfl⟩ := rowG_shape hr
  obtain ⟨g, off, rfl, hn, q1, q2, q3⟩ := node_cells hr hm
  have CU := hidE (fun w1 (h : RowT w1 (.slice (some ⟨g, off, none⟩) (flat (.one op a)).length cap) (.one op a)) => cut_any (flat (.one op a)) bs ((flat a).length - 1) _ w1 (by omega) hg (by omega) h (flat_mvb hw (by omega)))
  rw [hcut] at CU
  have IA := hidE (fun u1 w1 (h : RowT w1 u1 a) => ih hw.2 (by omega) u1 w1 h)
  have FO := hidE (fun u1 w1 (h : RowT w1 u1 (foldT a)) => foldOne_any op (foldT a) u1 w1 hw.1 (foldT_wf a hw.2) (by have := foldT_len a; omega) h)
  have AR := hidE (fun w => arity_any op w)
  rw [show ar op = 1 from hw.1] at AR
  have RL := hidE hr
  have HF : Hid (foldT (.one op a) = fold1 op (foldT a)) := rfl
  unfold maxLen at q2
  obtain ⟨z0, z1, z2, z3, z4, z5⟩ := hn
  have dx : ((rootN (.one op a)).x) = (((flat a).length - 1 : Nat) : Int) := by show ((flat a).length : Int) - 1 = _; omega
  rw [dx] at z1
  have n0 : w.cell? ⟨g, off + m * 6, none⟩ = some (.int .i64 op) := z0
  have n1 : w.cell? ⟨g, off + m * 6 + 1, none⟩ = some (.int .i64 (((flat a).length - 1 : Nat) : Int)) := z1
  have n2 : w.cell? ⟨g, off + m * 6 + 2, none⟩ = some (.int .i64 0) := z2
  have n3 : w.cell? ⟨g, off + m * 6 + 3, none⟩ = some (.int .i64 0) := z3
  have n4 : w.cell? ⟨g, off + m * 6 + 4, none⟩ = some (.int .i64 0) := z4
  have n5 : w.cell? ⟨g, off + m * 6 + 5, none⟩ = some (.int .i64 0) := z5
  rw [hm] at RL q1 CU ⊢
  clear hm hr hcut hg hlen pa dx ih hl z0 z1 z2 z3 z4 z5
  generalize hie : (flat a).length - 1 = ie at *
  clear hie
  have hA := (Below.refl w.heap.size w).alloc (Nat.le_refl _) (.cells #[.int .i64 op, .int .i64 (ie : Int), .int .i64 0, .int .i64 0, .int .i64 0, .int .i64 0] 29)
  have RL := hidE (rowG_below RL.out hA)
  have HB := hidE hA
  have c0 : (w.alloc (.cells #[.int .i64 op, .int .i64 (ie : Int), .int .i64 0, .int .i64 0, .int .i64 0, .int .i64 0] 29)).cell? ⟨w.heap.size, 0, none⟩ = some (.int .i64 op) := by go_simp
  have c1 : (w.alloc (.cells #[.int .i64 op, .int .i64 (ie : Int), .int .i64 0, .int .i64 0, .int .i64 0, .int .i64 0] 29)).cell? ⟨w.heap.size, 1, none⟩ = some (.int .i64 (ie : Int)) := by go_simp
  have hbl : w.heap.size < (w.alloc (.cells #[.int .i64 op, .int .i64 (ie : Int), .int .i64 0, .int .i64 0, .int .i64 0, .int .i64 0] 29)).heap.size := by simp
  clear hA
  go_enter Tryz.func18, Tryz.ntmps18
  go_wp2_with fail
  refine (AR.out _).mono ?_
  rintro e w1 ⟨rfl, rfl⟩
  go_wp2_with fail
  · generalize hwx : (w.alloc (.cells #[.int .i64 op, .int .i64 (ie : Int), .int .i64 0, .int .i64 0, .int .i64 0, .int .i64 0] 29)) = wx at *
    clear hwx
    obtain ⟨B0, hB0⟩ : ∃ B0, w.heap.size = B0 := ⟨_, rfl⟩
    obtain ⟨b, hb0⟩ : ∃ b, w.heap.size = b := ⟨_, rfl⟩
    rw [hb0] at c0 c1 hbl
    rw [hb0]
    have hS : Below wx.heap.size wx { wx with drawn := wx.drawn + 1 } := (Below.refl _ _).drew
    have HW := hidE hS
    have HS0 : Hid (B0 ≤ wx.heap.size) := hidE (by omega)
    have RL := hidE (rowG_below RL.out hS)
    clear hb0
    refine wp_region_held (S := Below wx.heap.size wx) (by kernel_rfl) ?_
    generalize hwd : ({ wx with drawn := wx.drawn + 1 } : World) = wd0 at *
    clear hwd
    refine held_take (i := 0) (v := .pointer (some ⟨b, 0, none⟩)) (L := #[true, false, false, false, false, false, false, false, false]) rfl (by kernel_rfl) (by kernel_rfl) (by kernel_rfl) (fun c a w h => h) (Or.inl ⟨by kernel_rfl, fun wq hq => by go_simp⟩) hS (by kernel_rfl) ?_
    refine held_take (i := 1) (v := .int .i64 op) (L := #[true, true, false, false, false, false, false, false, false]) rfl (by kernel_rfl) (by kernel_rfl) (by kernel_rfl) (fun c a w h => h) (Or.inl ⟨by kernel_rfl, fun wq hq => by have q := hq.cell (p := ⟨b, 0, none⟩) hbl; rw [c0] at q; go_simp⟩) hS (by kernel_rfl) ?_
    refine held_take (i := 2) (v := .slice (some ⟨g, off, none⟩) (m + 1) cap) (L := #[true, true, true, false, false, false, false, false, false]) rfl (by kernel_rfl) (by kernel_rfl) (by kernel_rfl) (fun c a w h => h) (Or.inl ⟨by kernel_rfl, fun wq hq => by go_simp⟩) hS (by kernel_rfl) ?_
    refine held_take (i := 3) (v := .pointer (some ⟨b, 1, none⟩)) (L := #[true, true, true, true, false, false, false, false, false]) rfl (by kernel_rfl) (by kernel_rfl) (by kernel_rfl) (fun c a w h => h) (Or.inl ⟨by kernel_rfl, fun wq hq => by go_simp⟩) hS (by kernel_rfl) ?_
    refine held_take (i := 4) (v := .int .i64 (ie : Int)) (L := #[true, true, true, true, true, false, false, false, false]) rfl (by kernel_rfl) (by kernel_rfl) (by kernel_rfl) (fun c a w h => h) (Or.inl ⟨by kernel_rfl, fun wq hq => by have q := hq.cell (p := ⟨b, 1, none⟩) hbl; rw [c1] at q; go_simp⟩) hS (by kernel_rfl) ?_
    refine held_go (i := 5) (L := #[true, true, true, true, true, true, false, false, false]) (by kernel_rfl) rfl (by kernel_rfl) (by kernel_rfl) ?_
    intro K' hK
    go_simp
    refine (CU.out _ RL.out).mono ?_
    rintro e wc ⟨uwc, rfl, ho, hb⟩
    have RC := hidE (rowG_of_owns ho)
    obtain ⟨aowc, capwc, rfl⟩ := rowG_shape RC.out
    have RL := hidE (rowG_below RL.out hb)
    have HW := nxt HW hb
    refine hK _ _ ⟨HW.out, ?_⟩
    clear hK ho hb
    refine held_go (i := 6) (L := #[true, true, true, true, true, true, true, false, false]) (by kernel_rfl) rfl (by kernel_rfl) (by kernel_rfl) ?_
    intro K' hK
    go_simp
    refine (IA.out _ _ RC.out).mono ?_
    rintro e wf ⟨uwf, rfl, ho, hb, -⟩
    have RF := hidE (ho)
    obtain ⟨aowf, capwf, rfl⟩ := rowG_shape RF.out
    have RL := hidE (rowG_below RL.out hb)
    have HW := nxt HW hb
    refine hK _ _ ⟨HW.out, ?_⟩
    clear hK ho hb
    refine held_go (i := 7) (L := #[true, true, true, true, true, true, true, true, false]) (by kernel_rfl) rfl (by kernel_rfl) (by kernel_rfl) ?_
    intro K' hK
    go_simp
    refine (FO.out _ _ RF.out).mono ?_
    rintro e wo ⟨uwo, rfl, ho, hb, fo⟩
    have FO9 := hidE (frV_mono fo (Nat.le_trans HS0.out HW.out.size))
    have RO := hidE (ho)
    obtain ⟨aowo, capwo, rfl⟩ := rowG_shape RO.out
    have RL := hidE (rowG_below RL.out hb)
    have HW := nxt HW hb
    refine hK _ _ ⟨HW.out, ?_⟩
    clear hK ho hb fo
    refine held_go (i := 8) (L := #[true, true, true, true, true, true, true, true, true]) (by kernel_rfl) rfl (by kernel_rfl) (by kernel_rfl) ?_
    intro K' hK
    go_simp
    refine hK _ _ ⟨HW.out, ?_⟩
    clear hK
    refine wpAnyH_done (by kernel_rfl) ?_ _
    go_wp2_with fail
    go_ret
    exact ⟨_, rfl, by rw [HF.out]; exact RO.out, done HB.out HW, by rw [hB0]; exact FO9.out⟩

set_option maxRecDepth 100000 in
set_option maxHeartbeats 1000000 in
theorem folded_two (op : Int) (a c : Ex) (ih : FoldOk a) (ih2 : FoldOk c) : FoldOk (.two op a c) := by
  intro hw hl u w hr
  obtain ⟨m, hm⟩ : ∃ m, (flat (.two op a c)).length = m + 1 := ⟨(flat (.two op a c)).length - 1, by have := flat_pos (.two op a c); omega⟩
  have m50 : m ≤ 50 := by omega
  have hlen : (flat (.two op a c)).length = (flat a).length + (flat c).length + 1 := by simp [flat, joinL]; omega
  have pa := flat_pos a
  have pc := flat_pos c
  obtain ⟨bs, hg, hcut, hcut2⟩ := cut_two_l hw
  obtain ⟨ao, cap, rfl⟩ := rowG_shape hr
  obtain ⟨g, off, rfl, hn, q1, q2, q3⟩ := node_cells hr hm
  have CU := hidE (fun w1 (h : RowT w1 (.slice (some ⟨g, off, none⟩) (flat (.two op a c)).length cap) (.two op a c)) => cut_any (flat (.two op a c)) bs ((flat a).length - 1) _ w1 (by omega) hg (by omega) h (flat_mvb hw (by omega)))
  rw [hcut] at CU
  have CV := hidE (fun w1 (h : RowT w1 (.slice (some ⟨g, off, none⟩) (flat (.two op a c)).length cap) (.two op a c)) => cut_any (flat (.two op a c)) bs ((flat a).length + (flat c).length - 1) _ w1 (by omega) hg (by omega) h (flat_mvb hw (by omega)))
  rw [hcut2] at CV
  have IA := hidE (fun u1 w1 (h : RowT w1 u1 a) => ih hw.2.1 (by omega) u1 w1 h)
  have IB := hidE (fun u1 w1 (h : RowT w1 u1 c) => ih2 hw.2.2 (by omega) u1 w1 h)
  have FT := hidE (fun u1 u2 w1 (h : RowT w1 u1 (foldT a)) (h2 : RowT w1 u2 (foldT c)) => foldTwo_any op (foldT a) (foldT c) u1 u2 w1 hw.1 (foldT_wf a hw.2.1) (foldT_wf c hw.2.2) (by have := foldT_len a; omega) (by have := foldT_len c; omega) h h2)
  have AR := hidE (fun w => arity_any op w)
  rw [show ar op = 2 from hw.1] at AR
  have RL := hidE hr
  have HF : Hid (foldT (.two op a c) = fold2 op (foldT a) (foldT c)) := rfl
  unfold maxLen at q2
  obtain ⟨z0, z1, z2, z3, z4, z5⟩ := hn
  have dx : ((rootN (.two op a c)).x) = (((flat a).length - 1 : Nat) : Int) := by show ((flat a).length : Int) - 1 = _; omega
  have dy : ((rootN (.two op a c)).y) = (((flat a).length + (flat c).length - 1 : Nat) : Int) := by show ((flat a).length : Int) + (flat c).length - 1 = _; omega
  rw [dx] at z1
  rw [dy] at z2
  have n0 : w.cell? ⟨g, off + m * 6, none⟩ = some (.int .i64 op) := z0
  have n1 : w.cell? ⟨g, off + m * 6 + 1, none⟩ = some (.int .i64 (((flat a).length - 1 : Nat) : Int)) := z1
  have n2 : w.cell? ⟨g, off + m * 6 + 2, none⟩ = some (.int .i64 (((flat a).length + (flat c).length - 1 : Nat) : Int)) := z2
  have n3 : w.cell? ⟨g, off + m * 6 + 3, none⟩ = some (.int .i64 0) := z3
  have n4 : w.cell? ⟨g, off + m * 6 + 4, none⟩ = some (.int .i64 0) := z4
  have n5 : w.cell? ⟨g, off + m * 6 + 5, none⟩ = some (.int .i64 0) := z5
  rw [hm] at RL q1 CU CV ⊢
  clear hm hr hcut hcut2 hg hlen pa pc dx dy ih ih2 hl z0 z1 z2 z3 z4 z5
  generalize hje : (flat a).length + (flat c).length - 1 = je at *
  generalize hie : (flat a).length - 1 = ie at *
  clear hie hje
  have hA := (Below.refl w.heap.size w).alloc (Nat.le_refl _) (.cells #[.int .i64 op, .int .i64 (ie : Int), .int .i64 (je : Int), .int .i64 0, .int .i64 0, .int .i64 0] 29)
  have RL := hidE (rowG_below RL.out hA)
  have HB := hidE hA
  have c0 : (w.alloc (.cells #[.int .i64 op, .int .i64 (ie : Int), .int .i64 (je : Int), .int .i64 0, .int .i64 0, .int .i64 0] 29)).cell? ⟨w.heap.size, 0, none⟩ = some (.int .i64 op) := by go_simp
  have c1 : (w.alloc (.cells #[.int .i64 op, .int .i64 (ie : Int), .int .i64 (je : Int), .int .i64 0, .int .i64 0, .int .i64 0] 29)).cell? ⟨w.heap.size, 1, none⟩ = some (.int .i64 (ie : Int)) := by go_simp
  have c2 : (w.alloc (.cells #[.int .i64 op, .int .i64 (ie : Int), .int .i64 (je : Int), .int .i64 0, .int .i64 0, .int .i64 0] 29)).cell? ⟨w.heap.size, 2, none⟩ = some (.int .i64 (je : Int)) := by go_simp
  have hbl : w.heap.size < (w.alloc (.cells #[.int .i64 op, .int .i64 (ie : Int), .int .i64 (je : Int), .int .i64 0, .int .i64 0, .int .i64 0] 29)).heap.size := by simp
  clear hA
  go_enter Tryz.func18, Tryz.ntmps18
  go_wp2_with fail
  refine (AR.out _).mono ?_
  rintro e w1 ⟨rfl, rfl⟩
  go_wp2_with fail
  · generalize hwx : (w.alloc (.cells #[.int .i64 op, .int .i64 (ie : Int), .int .i64 (je : Int), .int .i64 0, .int .i64 0, .int .i64 0] 29)) = wx at *
    clear hwx
    obtain ⟨B0, hB0⟩ : ∃ B0, w.heap.size = B0 := ⟨_, rfl⟩
    obtain ⟨b, hb0⟩ : ∃ b, w.heap.size = b := ⟨_, rfl⟩
    rw [hb0] at c0 c1 c2 hbl
    rw [hb0]
    have hS : Below wx.heap.size wx { wx with drawn := wx.drawn + 1 } := (Below.refl _ _).drew
    have HW := hidE hS
    have HS0 : Hid (B0 ≤ wx.heap.size) := hidE (by omega)
    have RL := hidE (rowG_below RL.out hS)
    clear hb0
    refine wp_region_held (S := Below wx.heap.size wx) (by kernel_rfl) ?_
    generalize hwd : ({ wx with drawn := wx.drawn + 1 } : World) = wd0 at *
    clear hwd
    refine held_take (i := 0) (v := .pointer (some ⟨b, 0, none⟩)) (L := #[true, false, false, false, false, false, false, false, false, false, false, false, false, false]) rfl (by kernel_rfl) (by kernel_rfl) (by kernel_rfl) (fun c a w h => h) (Or.inl ⟨by kernel_rfl, fun wq hq => by go_simp⟩) hS (by kernel_rfl) ?_
    refine held_take (i := 1) (v := .int .i64 op) (L := #[true, true, false, false, false, false, false, false, false, false, false, false, false, false]) rfl (by kernel_rfl) (by kernel_rfl) (by kernel_rfl) (fun c a w h => h) (Or.inl ⟨by kernel_rfl, fun wq hq => by have q := hq.cell (p := ⟨b, 0, none⟩) hbl; rw [c0] at q; go_simp⟩) hS (by kernel_rfl) ?_
    refine held_take (i := 2) (v := .slice (some ⟨g, off, none⟩) (m + 1) cap) (L := #[true, true, true, false, false, false, false, false, false, false, false, false, false, false]) rfl (by kernel_rfl) (by kernel_rfl) (by kernel_rfl) (fun c a w h => h) (Or.inl ⟨by kernel_rfl, fun wq hq => by go_simp⟩) hS (by kernel_rfl) ?_
    refine held_take (i := 3) (v := .pointer (some ⟨b, 1, none⟩)) (L := #[true, true, true, true, false, false, false, false, false, false, false, false, false, false]) rfl (by kernel_rfl) (by kernel_rfl) (by kernel_rfl) (fun c a w h => h) (Or.inl ⟨by kernel_rfl, fun wq hq => by go_simp⟩) hS (by kernel_rfl) ?_
    refine held_take (i := 4) (v := .int .i64 (ie : Int)) (L := #[true, true, true, true, true, false, false, false, false, false, false, false, false, false]) rfl (by kernel_rfl) (by kernel_rfl) (by kernel_rfl) (fun c a w h => h) (Or.inl ⟨by kernel_rfl, fun wq hq => by have q := hq.cell (p := ⟨b, 1, none⟩) hbl; rw [c1] at q; go_simp⟩) hS (by kernel_rfl) ?_
    refine held_take (i := 7) (v := .slice (some ⟨g, off, none⟩) (m + 1) cap) (L := #[true, true, true, true, true, false, false, true, false, false, false, false, false, false]) rfl (by kernel_rfl) (by kernel_rfl) (by kernel_rfl) (fun c a w h => h) (Or.inl ⟨by kernel_rfl, fun wq hq => by go_simp⟩) hS (by kernel_rfl) ?_
    refine held_take (i := 8) (v := .pointer (some ⟨b, 2, none⟩)) (L := #[true, true, true, true, true, false, false, true, true, false, false, false, false, false]) rfl (by kernel_rfl) (by kernel_rfl) (by kernel_rfl) (fun c a w h => h) (Or.inl ⟨by kernel_rfl, fun wq hq => by go_simp⟩) hS (by kernel_rfl) ?_
    refine held_take (i := 9) (v := .int .i64 (je : Int)) (L := #[true, true, true, true, true, false, false, true, true, true, false, false, false, false]) rfl (by kernel_rfl) (by kernel_rfl) (by kernel_rfl) (fun c a w h => h) (Or.inl ⟨by kernel_rfl, fun wq hq => by have q := hq.cell (p := ⟨b, 2, none⟩) hbl; rw [c2] at q; go_simp⟩) hS (by kernel_rfl) ?_
    refine held_go (i := 5) (L := #[true, true, true, true, true, true, false, true, true, true, false, false, false, false]) (by kernel_rfl) rfl (by kernel_rfl) (by kernel_rfl) ?_
    intro K' hK
    go_simp
    refine (CU.out _ RL.out).mono ?_
    rintro e wc ⟨uwc, rfl, ho, hb⟩
    have FC9 := hidE (frV_mono (frV_of_owns ho) (Nat.le_trans HS0.out HW.out.size))
    have RC := hidE (rowG_of_owns ho)
    obtain ⟨aowc, capwc, rfl⟩ := rowG_shape RC.out
    have RL := hidE (rowG_below RL.out hb)
    have HW := nxt HW hb
    refine hK _ _ ⟨HW.out, ?_⟩
    clear hK ho hb
    refine held_go (i := 6) (L := #[true, true, true, true, true, true, true, true, true, true, false, false, false, false]) (by kernel_rfl) rfl (by kernel_rfl) (by kernel_rfl) ?_
    intro K' hK
    go_simp
    refine (IA.out _ _ RC.out).mono ?_
    rintro e wf ⟨uwf, rfl, ho, hb, fo⟩
    have FF9 : Hid (FrV B0 uwf) := hidE (frV_mono fo (Nat.le_trans HS0.out HW.out.size))
    clear fo
    have RF := hidE (ho)
    obtain ⟨aowf, capwf, rfl⟩ := rowG_shape RF.out
    have RL := hidE (rowG_below RL.out hb)
    have HW := nxt HW hb
    refine hK _ _ ⟨HW.out, ?_⟩
    clear hK ho hb
    refine held_go (i := 10) (L := #[true, true, true, true, true, true, true, true, true, true, true, false, false, false]) (by kernel_rfl) rfl (by kernel_rfl) (by kernel_rfl) ?_
    intro K' hK
    go_simp
    refine (CV.out _ RL.out).mono ?_
    rintro e wd ⟨uwd, rfl, ho, hb⟩
    have FD9 := hidE (frV_mono (frV_of_owns ho) (Nat.le_trans HS0.out HW.out.size))
    have RD := hidE (rowG_of_owns ho)
    obtain ⟨aowd, capwd, rfl⟩ := rowG_shape RD.out
    have RL := hidE (rowG_below RL.out hb)
    have RF := hidE (rowG_below RF.out hb)
    have HW := nxt HW hb
    refine hK _ _ ⟨HW.out, ?_⟩
    clear hK ho hb
    refine held_go (i := 11) (L := #[true, true, true, true, true, true, true, true, true, true, true, true, false, false]) (by kernel_rfl) rfl (by kernel_rfl) (by kernel_rfl) ?_
    intro K' hK
    go_simp
    refine (IB.out _ _ RD.out).mono ?_
    rintro e wg ⟨uwg, rfl, ho, hb, fo⟩
    have FG9 : Hid (FrV B0 uwg) := hidE (frV_mono fo (Nat.le_trans HS0.out HW.out.size))
    clear fo
    have RG := hidE (ho)
    obtain ⟨aowg, capwg, rfl⟩ := rowG_shape RG.out
    have RL := hidE (rowG_below RL.out hb)
    have RF := hidE (rowG_below RF.out hb)
    have HW := nxt HW hb
    refine hK _ _ ⟨HW.out, ?_⟩
    clear hK ho hb
    refine held_go (i := 12) (L := #[true, true, true, true, true, true, true, true, true, true, true, true, true, false]) (by kernel_rfl) rfl (by kernel_rfl) (by kernel_rfl) ?_
    intro K' hK
    go_simp
    refine (FT.out _ _ _ RF.out RG.out).mono ?_
    rintro e wo ⟨uwo, rfl, ho, hb, fo⟩
    have FO9 : Hid (FrV B0 uwo) := hidE (by
      rcases fo with e9 | e9 | e9
      · rw [e9]; exact FF9.out
      · rw [e9]; exact FG9.out
      · exact frV_mono e9 (Nat.le_trans HS0.out HW.out.size))
    clear fo
    have RO := hidE (ho)
    obtain ⟨aowo, capwo, rfl⟩ := rowG_shape RO.out
    have RL := hidE (rowG_below RL.out hb)
    have HW := nxt HW hb
    refine hK _ _ ⟨HW.out, ?_⟩
    clear hK ho hb
    refine held_go (i := 13) (L := #[true, true, true, true, true, true, true, true, true, true, true, true, true, true]) (by kernel_rfl) rfl (by kernel_rfl) (by kernel_rfl) ?_
    intro K' hK
    go_simp
    refine hK _ _ ⟨HW.out, ?_⟩
    clear hK
    refine wpAnyH_done (by kernel_rfl) ?_ _
    go_wp2_with fail
    go_ret
    exact ⟨_, rfl, by rw [HF.out]; exact RO.out, done HB.out HW, by rw [hB0]; exact FO9.out⟩

theorem folded_any : ∀ t : Ex, FoldOk t
  | .cst k v => folded_leaf (.cst k v) rfl rfl
  | .fld n => folded_leaf (.fld n) rfl rfl
  | .one op a => folded_one op a (folded_any a)
  | .two op a c => folded_two op a c (folded_any a) (folded_any c)

set_option maxRecDepth 100000 in
/-- Fold of a list that may be -/
theorem Fold_any (t : Ex) (u : Value) (w : World) (hw : Wf t) (hl : (flat t).length ≤ 40) (hr : RowT w u t) :
    Calls Tryz.prog 6 #[u] w fun e w' => ∃ u', e = .returned u' ∧ RowT w' u' (foldT t) ∧ Below w.heap.size w w' ∧ FrV w.heap.size u' := by
  have CK := hidE (check_any (flat t) u w (by omega) hr)
  rw [flat_chk hw hl, show errC 0 = .nilIface from rfl] at CK
  have FA := hidE (fun w1 (h : RowT w1 u t) => folded_any t hw (by omega) u w1 h)
  obtain ⟨ao, cap, rfl⟩ := rowG_shape hr
  go_enter Tryz.func6, Tryz.ntmps6
  go_wp2_with fail
  refine CK.out.mono ?_
  rintro e w1 ⟨rfl, hb⟩
  have HB := hidE hb
  go_wp2_with fail
  refine (FA.out _ (rowG_below hr hb)).mono ?_
  rintro e w2 ⟨u2, rfl, hr2, hb2, f2⟩
  have F2 := hidE f2
  have hsz2 := HB.out.size
  have HB := nxt HB hb2
  obtain ⟨ao2, cap2, rfl⟩ := rowG_shape hr2
  clear hb hb2 f2
  go_wp2_with fail
  go_ret
  exact ⟨_, rfl, hr2, HB.out, frV_mono F2.out hsz2⟩
end Go.Proofs.YtaomljdbndajgaaGreatDoor
/- The contract of light (are events few, and may each be), over this seat's translation. Conditions: as named. -/
namespace Go.Proofs.YtaomljdbndajgaaGreatDoor
open Go.ChangeShapes Go.WideShapes Go.ChangeAt Go.RowKit
set_option linter.unusedVariables false
set_option linter.unusedSimpArgs false

def lightE (l : List Ev) : Bool := decide (l.length ≤ 40) && l.all fun x => decide (evC x = 0)
def lightM (M : List (List Ev)) : Bool := decide (M.length ≤ 3) && M.all lightE
theorem lightM_ok {M : List (List Ev)} (h : lightM M = true) : M.length ≤ 3 ∧ ∀ l ∈ M, l.length ≤ 40 ∧ ∀ x ∈ l, evC x = 0 := by
  unfold lightM at h
  simp only [Bool.and_eq_true, decide_eq_true_eq, List.all_eq_true] at h
  refine ⟨h.1, fun l hl => ?_⟩
  have h1 := h.2 l hl
  unfold lightE at h1
  simpa using h1

set_option maxRecDepth 100000 in
set_option maxHeartbeats 2000000 in
theorem light_any (pv : Value) (vs : List Value) (M : List (List Ev)) (w : World) (h : PtsR w pv vs M) (hml : M.length ≤ maxLen) :
    Calls Tryz.prog 9 #[pv] w fun e w' => e = .returned (.bool (lightM M)) ∧ Below w.heap.size w w' := by
  obtain ⟨ap, cp, rfl⟩ := rowG_shape h.row
  unfold maxLen at hml
  by_cases h3 : M.length ≤ 3
  · have HT : Hid ((∀ l ∈ M, lightE l = true) → lightM M = true) := fun hl => by
      unfold lightM
      rw [decide_eq_true h3, Bool.true_and, List.all_eq_true]
      exact hl
    have HF : Hid (∀ l ∈ M, lightE l = false → lightM M = false) := fun l hl e => by
      cases hb : lightM M with
      | false => rfl
      | true =>
        unfold lightM at hb
        rw [decide_eq_true h3, Bool.true_and, List.all_eq_true] at hb
        rw [hb l hl] at e
        cases e
    have HM := hidE h
    have d3 : decide ((3 : Int) < (M.length : Int)) = false := by simp; omega
    generalize lightM M = b at *
    clear h
    go_enter Tryz.func9, Tryz.ntmps9
    go_wp2_with fail
    go_loopw [3] (fun i wr => ∃ m : Nat, m ≤ M.length ∧ i = .int .i64 m ∧ Hid (∀ l ∈ M.take m, lightE l = true) ∧ Hid (Below w.heap.size w wr)) (fun i _ => M.length - (intOf i).toNat)
    case atStart => exact ⟨0, Nat.zero_le _, rfl, fun l hl => by simp at hl, Below.refl _ _⟩
    case round =>
      obtain ⟨m, hm, rfl, HP, HB⟩ := hrel
      by_cases hlt : m < M.length
      · obtain ⟨g, off, v, hao, hv, y0, z1, z2, z3⟩ := rowG_cell HM.out.row m hlt
        subst hao
        have hrl := HM.out.each m v M[m] hv (List.getElem?_eq_getElem hlt)
        have hmem := List.getElem_mem hlt
        have hnx : M.take (m + 1) = M.take m ++ [M[m]] := List.take_succ_eq_append_getElem hlt
        have HNX : Hid (lightE M[m] = true → ∀ l ∈ M.take (m + 1), lightE l = true) := fun he l hl => by
          rw [hnx] at hl
          rcases List.mem_append.1 hl with hl | hl
          · exact HP.out l hl
          · rw [List.mem_singleton.1 hl]
            exact he
        have HFM := hidE (HF.out M[m] hmem)
        clear hnx hv hmem
        generalize M[m] = l at *
        obtain ⟨al, cl, rfl⟩ := rowG_shape hrl
        have HRL := hidE hrl
        unfold maxLen at z2
        have Y0 := hidE y0
        have y0 : wr.cell? ⟨g, off + m, none⟩ = some (.slice al l.length cl) := (HB.out.cell (p := ⟨g, off + m, none⟩) z3).trans Y0.out
        have z4 : g < wr.heap.size := Nat.lt_of_lt_of_le z3 HB.out.size
        clear hrl
        by_cases hl : l.length ≤ 40
        · have d4 : decide ((40 : Int) < (l.length : Int)) = false := by simp; omega
          have HLT : Hid ((∀ x ∈ l, evC x = 0) → lightE l = true) := fun hx => by
            unfold lightE
            simp [hl]
            exact hx
          have HLF : Hid (∀ x ∈ l, evC x ≠ 0 → lightE l = false) := fun x hx hc => by
            unfold lightE
            rw [Bool.and_eq_false_iff]
            refine .inr ?_
            cases hb : l.all fun x => decide (evC x = 0) with
            | false => rfl
            | true =>
              rw [List.all_eq_true] at hb
              have := hb x hx
              simp [hc] at this
          go_wp2_with fail
          go_loopw [4] (fun i wx => ∃ k : Nat, k ≤ l.length ∧ i = .int .i64 k ∧ Hid (∀ x ∈ l.take k, evC x = 0) ∧ Hid (Below w.heap.size w wx)) (fun i _ => l.length - (intOf i).toNat)
          case atStart => exact ⟨0, Nat.zero_le _, rfl, fun x hx => by simp at hx, HB⟩
          case round =>
            clear HB y0
            obtain ⟨k, hk, rfl, HX, HB⟩ := hrel
            have y0 : wr.cell? ⟨g, off + m, none⟩ = some (.slice al l.length cl) := (HB.out.cell (p := ⟨g, off + m, none⟩) z3).trans Y0.out
            have z5 : g < wr.heap.size := Nat.lt_of_lt_of_le z3 HB.out.size
            clear z4
            by_cases hkl : k < l.length
            · obtain ⟨ge, oe, hae, hce, p1, p2, p3⟩ := rowOf_val cellsE_len (rowG_below HRL.out HB.out) k hkl
              subst hae
              have hxm := List.getElem_mem hkl
              have hnx : l.take (k + 1) = l.take k ++ [l[k]] := List.take_succ_eq_append_getElem hkl
              have HLK := hidE (HLF.out l[k] hxm)
              have HXN : Hid (evC l[k] = 0 → ∀ x ∈ l.take (k + 1), evC x = 0) := fun he x hx => by
                rw [hnx] at hx
                rcases List.mem_append.1 hx with hx | hx
                · exact HX.out x hx
                · rw [List.mem_singleton.1 hx]
                  exact he
              clear hnx hxm
              generalize l[k] = x at *
              obtain ⟨x0, x1, x2, x3, x4, x5, x6⟩ := ev7 hce
              unfold maxLen at p2
              have SC := srcCheck_any x wr
              unfold aggEv at SC
              clear hce
              by_cases hc : evC x = 0
              · have e9 : errV 0 = .nilIface := rfl
                rw [hc, e9] at SC
                have SCH := hidE SC
                have HX1 := hidE (HXN.out hc)
                clear SC e9 hc
                go_wp2_with fail
                refine SCH.out.mono ?_
                rintro e w1 ⟨rfl, hb⟩
                have HB1 := nxt HB hb
                clear hb
                go_wp2_with fail
                go_roundw
                case rel => exact ⟨k + 1, by omega, by go_num, HX1, HB1⟩
                case measure => simp [intOf]; omega
              · have e9 : errV (evC x) = .iface 56 (.int .i64 (evC x)) := by unfold errV; rw [if_neg hc]
                rw [e9] at SC
                have SCH := hidE SC
                have hbf : b = false := HFM.out (HLK.out hc)
                subst hbf
                generalize evC x = c at *
                clear SC e9 hc
                go_wp2_with fail
                refine SCH.out.mono ?_
                rintro e w1 ⟨rfl, hb⟩
                have HB1 := nxt HB hb
                clear hb
                go_wp2_with fail
                go_ret
                exact ⟨rfl, HB1.out⟩
            · have hke : k = l.length := by omega
              subst hke
              have HP2 := hidE (HNX.out (HLT.out (fun x hx => HX.out x (by rw [List.take_length]; exact hx))))
              go_wp2_with fail
              go_roundw
              case rel => exact ⟨m + 1, by omega, by go_num, HP2, HB⟩
              case measure => simp [intOf]; omega
        · have d4 : decide ((40 : Int) < (l.length : Int)) = true := by simp; omega
          have hbf : b = false := HFM.out (by unfold lightE; rw [decide_eq_false hl]; rfl)
          subst hbf
          go_wp2_with fail
          go_ret
          exact ⟨rfl, HB.out⟩
      · have hme : m = M.length := by omega
        subst hme
        have hbt : b = true := HT.out (fun l hl => HP.out l (by rw [List.take_length]; exact hl))
        subst hbt
        go_wp2_with fail
        go_ret
        exact ⟨rfl, HB.out⟩
  · have d3 : decide ((3 : Int) < (M.length : Int)) = true := by simp; omega
    have hbf : lightM M = false := by unfold lightM; rw [decide_eq_false h3]; rfl
    rw [hbf]
    clear h hbf
    go_enter Tryz.func9, Tryz.ntmps9
    go_wp2_with fail
    go_ret
    exact ⟨rfl, Below.refl _ _⟩
end Go.Proofs.YtaomljdbndajgaaGreatDoor
/- Two tables that tell the same are one list of panes; in which order parts stand is not asked. Conditions: none. -/
namespace Go.Proofs.YtaomljdbndajgaaGreatDoor
open Go.ChangeShapes Go.WideShapes Go.ChangeAt Go.RowKit
set_option linter.unusedVariables false
set_option linter.unusedSimpArgs false

theorem sorted_ext {α : Type} (lt : α → α → Prop) (hirr : ∀ a, ¬ lt a a) (has : ∀ a b, lt a b → ¬ lt b a) : ∀ (l m : List α), l.Pairwise lt → m.Pairwise lt → (∀ x, x ∈ l ↔ x ∈ m) → l = m
  | [], [], _, _, _ => rfl
  | [], b :: m, _, _, h => absurd ((h b).2 List.mem_cons_self) (by simp)
  | a :: l, [], _, _, h => absurd ((h a).1 List.mem_cons_self) (by simp)
  | a :: l, b :: m, hl, hm, h => by
    obtain ⟨hl1, hl2⟩ := List.pairwise_cons.1 hl
    obtain ⟨hm1, hm2⟩ := List.pairwise_cons.1 hm
    have hab : a = b := by
      rcases List.mem_cons.1 ((h a).1 List.mem_cons_self) with e | e
      · exact e
      · rcases List.mem_cons.1 ((h b).2 List.mem_cons_self) with e2 | e2
        · exact e2.symm
        · exact absurd (hm1 a e) (has _ _ (hl1 b e2))
    subst hab
    rw [sorted_ext lt hirr has l m hl2 hm2 (fun x => ⟨fun hx => ?_, fun hx => ?_⟩)]
    · rcases List.mem_cons.1 ((h x).1 (List.mem_cons_of_mem _ hx)) with e | e
      · subst e
        exact absurd (hl1 x hx) (hirr x)
      · exact e
    · rcases List.mem_cons.1 ((h x).2 (List.mem_cons_of_mem _ hx)) with e | e
      · subst e
        exact absurd (hm1 x hx) (hirr x)
      · exact e
def pltO (a b : Int × Int × Int × List V2) : Prop := lexlt a.1 a.2.1 a.2.2.1 b.1 b.2.1 b.2.2.1
/-- what two say alike, window by window and key by key -/
def SameK (ks : List Int) (cs cs' : List Ct) : Prop := ∀ st k n, accOf ks (ofK st k n cs) = accOf ks (ofK st k n cs') ∧ (ofK st k n cs = [] ↔ ofK st k n cs' = [])
theorem ofT_mem {ks : List Int} {cs cs' : List Ct} {ps ps' : List Pn} (h : OfT ks cs ps) (h' : OfT ks cs' ps') (hk : SameK ks cs cs') (x : Int × Int × Int × List V2) (hx : x ∈ ps.map outP) : x ∈ ps'.map outP := by
  obtain ⟨p, hp, rfl⟩ := List.mem_map.1 hx
  obtain ⟨-, h1, h2⟩ := h.acc p hp
  obtain ⟨e1, e2⟩ := hk p.st p.k p.n
  have hne : ofK p.st p.k p.n cs' ≠ [] := fun e => h2 (e2.2 e)
  obtain ⟨c, hc⟩ := List.exists_mem_of_ne_nil _ hne
  have hcm := List.mem_filter.1 hc
  have hck : c.st = p.st ∧ c.key.1 = p.k ∧ c.key.2 = p.n := by simpa using hcm.2
  obtain ⟨p', hp', k1, k2, k3⟩ := h'.all c hcm.1
  have h3 := (h'.acc p' hp').2.1
  refine List.mem_map.2 ⟨p', hp', ?_⟩
  unfold outP
  rw [h3, h1, k1, k2, k3, hck.1, hck.2.1, hck.2.2, e1]
theorem ofT_same {ks : List Int} {cs cs' : List Ct} {ps ps' : List Pn} (h : OfT ks cs ps) (h' : OfT ks cs' ps') (hk : SameK ks cs cs') : ps.map outP = ps'.map outP := by
  have hs : SameK ks cs' cs := fun st k n => ⟨(hk st k n).1.symm, (hk st k n).2.symm⟩
  refine sorted_ext pltO (fun a => lexlt_irr _ _ _) (fun a b => by unfold pltO lexlt; omega) _ _ ?_ ?_ (fun x => ⟨ofT_mem h h' hk x, ofT_mem h' h hs x⟩)
  · exact List.pairwise_map.2 (h.rise.imp fun {a b} e => e)
  · exact List.pairwise_map.2 (h'.rise.imp fun {a b} e => e)
end Go.Proofs.YtaomljdbndajgaaGreatDoor
/- The contracts of the document's SameValues and SamePane at two that are alike, over this seat's translation. Conditions: as named. -/
namespace Go.Proofs.YtaomljdbndajgaaGreatDoor
open Go.ChangeShapes Go.WideShapes Go.ChangeAt Go.RowKit
set_option linter.unusedVariables false
set_option linter.unusedSimpArgs false

theorem neq_val (a b : Int) (w : World) : (binOp .neq 26 (.agg #[.int .i64 a, .int .i64 b]) (.agg #[.int .i64 a, .int .i64 b])).run Tryz.prog w = .ok (.bool false) w := by
  have h1 : (a == a) = true := by simp
  have h2 : (b == b) = true := by simp
  go_simp
theorem eql_val (a b : Int) (w : World) : (binOp .eql 26 (.agg #[.int .i64 a, .int .i64 b]) (.agg #[.int .i64 a, .int .i64 b])).run Tryz.prog w = .ok (.bool true) w := by
  have h1 : (a == a) = true := by simp
  have h2 : (b == b) = true := by simp
  go_simp

set_option maxRecDepth 100000 in
set_option maxHeartbeats 1000000 in
theorem sameVals_any (l : List V2) (u v : Value) (w : World) (hl : l.length ≤ 1000) (hu : RowG w u 2 l.length (rowV l)) (hv : RowG w v 2 l.length (rowV l)) :
    Calls Tryz.prog 49 #[u, v] w fun e w' => e = .returned (.bool true) ∧ Below w.heap.size w w' := by
  obtain ⟨au, cu, rfl⟩ := rowG_shape hu
  obtain ⟨av, cv, rfl⟩ := rowG_shape hv
  have HU := hidE hu
  have HV := hidE hv
  have kn := kin_some w
  obtain ⟨kc, kf⟩ := kin_rules w
  have nq := neq_val
  have bne : ((l.length : Int) != (l.length : Int)) = false := by simp
  clear hu hv
  go_enter Tryz.func49, Tryz.ntmps49
  go_wp2_with fail
  go_loopw [5] (fun i wr => ∃ m : Nat, m ≤ l.length ∧ i = .int .i64 m ∧ Hid (Below w.heap.size w wr)) (fun i _ => l.length - (intOf i).toNat)
  case atStart => exact ⟨0, Nat.zero_le _, rfl, Below.refl _ _⟩
  case round =>
    obtain ⟨m, hm, rfl, HW⟩ := hrel
    by_cases hlt : m < l.length
    · obtain ⟨g1, o1, rfl, e0, e1, p1, p2, p3⟩ := rowV_val HU.out m hlt
      obtain ⟨g2, o2, rfl, f0, f1, q1, q2, q3⟩ := rowV_val HV.out m hlt
      generalize l[m] = x at *
      obtain ⟨x1, x2⟩ := x
      simp only at e0 e1 f0 f1
      unfold maxLen at p2 q2
      go_wp2_with fail
      refine wp_region_kin HW (by kernel_rfl) (by kernel_rfl) ?_
      repeat (go_big_quiet_step (fail))
      refine wpQuiet_nil ?_
      rintro _ ⟨pk, rfl⟩
      have HP := hidE pk.h
      generalize pk.w = wp at *
      clear HW
      go_wp2_with fail
      go_roundw
      case rel => exact ⟨m + 1, by omega, by go_num, HP⟩
      case measure => simp [intOf]; omega
    · have hml : m = l.length := by omega
      subst hml
      go_wp2_with fail
      go_ret
      exact ⟨rfl, HW.out⟩

set_option maxRecDepth 100000 in
set_option maxHeartbeats 1000000 in
theorem samePane_any (st k n : Int) (l : List V2) (u v : Value) (w : World) (hl : l.length ≤ 1000) (hu : RowG w u 2 l.length (rowV l)) (hv : RowG w v 2 l.length (rowV l)) :
    Calls Tryz.prog 29 #[.agg #[.int .i64 st, .int .i64 k, .int .i64 n, u], .agg #[.int .i64 st, .int .i64 k, .int .i64 n, v]] w fun e w' => e = .returned (.bool true) ∧ Below w.heap.size w w' := by
  obtain ⟨au, cu, rfl⟩ := rowG_shape hu
  obtain ⟨av, cv, rfl⟩ := rowG_shape hv
  have b1 := (Below.refl w.heap.size w).alloc (Nat.le_refl _) (.cells #[.int .i64 st, .int .i64 k, .int .i64 n, .slice au l.length cu] 74)
  have b2 := b1.alloc b1.size (.cells #[.int .i64 st, .int .i64 k, .int .i64 n, .slice av l.length cv] 74)
  have SV := hidE (sameVals_any l _ _ _ hl (rowG_below hu b2) (rowG_below hv b2))
  have A0 := blk_below (blk_alloc1k w [.int .i64 st, .int .i64 k, .int .i64 n, .slice au l.length cu] 74 (by simp)) ((Below.refl _ _).alloc (Nat.le_refl _) (.cells #[.int .i64 st, .int .i64 k, .int .i64 n, .slice av l.length cv] 74)) (by simp)
  have A1 := blk_alloc1k (w.alloc (.cells #[.int .i64 st, .int .i64 k, .int .i64 n, .slice au l.length cu] 74)) [.int .i64 st, .int .i64 k, .int .i64 n, .slice av l.length cv] 74 (by simp)
  rw [show (w.alloc (.cells #[.int .i64 st, .int .i64 k, .int .i64 n, .slice au l.length cu] 74)).heap.size = w.heap.size + 1 from by simp] at A1
  have B0 := hidE A0
  have B1 := hidE A1
  have HA := hidE b2
  have eq1 := eql_val
  have bs : (st == st) = true := by simp
  clear b1 b2 A0 A1 hu hv
  go_enter Tryz.func29, Tryz.ntmps29
  go_wp2_with fail
  refine SV.out.mono ?_
  rintro e w1 ⟨rfl, hb⟩
  have C0 := blk_below B0.out hb B0.out.lt
  have C1 := blk_below B1.out hb B1.out.lt
  have d0 : w1.cell? ⟨w.heap.size, 0, none⟩ = some (.int .i64 st) := C0.c 0 (by simp)
  have d1 : w1.cell? ⟨w.heap.size, 1, none⟩ = some (.int .i64 k) := C0.c 1 (by simp)
  have d2 : w1.cell? ⟨w.heap.size, 2, none⟩ = some (.int .i64 n) := C0.c 2 (by simp)
  have f0 : w1.cell? ⟨w.heap.size + 1, 0, none⟩ = some (.int .i64 st) := C1.c 0 (by simp)
  have f1 : w1.cell? ⟨w.heap.size + 1, 1, none⟩ = some (.int .i64 k) := C1.c 1 (by simp)
  have f2 : w1.cell? ⟨w.heap.size + 1, 2, none⟩ = some (.int .i64 n) := C1.c 2 (by simp)
  have HB := nxt HA hb
  clear hb C0 C1 B0 B1 SV HA
  go_wp2_with fail
  go_ret
  exact ⟨rfl, HB.out⟩
end Go.Proofs.YtaomljdbndajgaaGreatDoor

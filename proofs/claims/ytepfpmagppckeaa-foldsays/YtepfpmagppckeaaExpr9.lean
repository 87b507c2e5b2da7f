/- The contract of Join of package expr, over this seat's translation. Conditions: the nodes may be. -/
import Derived.Test.YtepfpmagppckeaaExpr8
namespace Go.Proofs.Ytepfpmagppckeaa
open Go.ChangeShapes Go.WideShapes Go.ChangeAt Go.RowKit
set_option linter.unusedVariables false
set_option linter.unusedSimpArgs false

theorem own_mono {w : World} {base base' : Nat} {e : TypeId} {size n : Nat} {v : Value} {xs : List Value} (h : w.ownsRow base e size v n xs) (hb : base' ≤ base) : w.ownsRow base' e size v n xs :=
  ⟨h.1, h.2.imp id fun ⟨g, cap, cur, a, b, c⟩ => ⟨g, cap, cur, a, Nat.le_trans hb b, c⟩⟩

theorem rowG_lo {w : World} {size n : Nat} {v : Value} {xs : List Value} (h : RowG w v size n xs) : ∀ g off m c, v = .slice (some ⟨g, off, none⟩) m c → 0 < m → g < w.heap.size := by
  intro g off m c e hm
  rcases h.2 with ⟨⟨ao, cap, h1⟩, -⟩ | ⟨g', off', cap, h1, -, -, h4, -⟩
  · rw [h1] at e
    simp only [Value.slice.injEq] at e
    omega
  · rw [h1] at e
    simp only [Value.slice.injEq, Option.some.injEq, Addr.mk.injEq] at e
    omega

set_option maxRecDepth 100000 in
set_option maxHeartbeats 2000000 in
theorem join_two (op : Int) (l m : List Nd) (u v : Value) (w : World) (hl : l.length ≤ 100) (hm : m.length ≤ 100) (hu : RowG w u 6 l.length (rowN l)) (hv : RowG w v 6 m.length (rowN m)) (h1 : ∀ n ∈ l, Mvb n) (h2 : ∀ n ∈ m, Mvb n) (ha : ar op = 2) :
    Calls Try.prog 27 #[.int .i64 op, u, v] w fun e w' => ∃ u', e = .returned u' ∧ w'.ownsRow w.heap.size 50 6 u' (joinL op l m).length (rowN (joinL op l m)) ∧ Below w.heap.size w w' := by
  obtain ⟨ao, cap, rfl⟩ := rowG_shape hu
  obtain ⟨ao2, cap2, rfl⟩ := rowG_shape hv
  obtain ⟨i0, hi0, hz0, hz1, hz2⟩ := info_parts infoN
  have HU := hidE hu
  have HV := hidE hv
  have H1 := hidE h1
  have H2 := hidE h2
  clear hu hv h1 h2
  have b1 : (ar op == 1) = false := by simp [ha]
  have b2 : (ar op == 2) = true := by simp [ha]
  have HA := hidE (fun w => arity_any op w)
  clear ha
  have HW : Hid (Below w.heap.size w (w.alloc (.cells #[.int .i64 op, .int .i64 ((l.length : Int) - 1), .int .i64 ((l.length : Int) + (m.length : Int) - 1), .int .i64 0, .int .i64 0, .int .i64 0] 50))) := (Below.refl _ _).alloc (Nat.le_refl _) _
  have hsz : (w.alloc (.cells #[.int .i64 op, .int .i64 ((l.length : Int) - 1), .int .i64 ((l.length : Int) + (m.length : Int) - 1), .int .i64 0, .int .i64 0, .int .i64 0] 50)).heap.size = w.heap.size + 1 := by simp
  go_enter Try.func27, Try.ntmps27
  go_wp2_with (first | (go_at_call 17; refine (HA.out _).mono ?_; rintro e w' ⟨rfl, rfl⟩) | (at_make; go_must (refine wpList_make_own _ rfl _ _ 33 rfl (w.heap.size + 1) 50 i0 (.agg #[.int .i64 0, .int .i64 0, .int .i64 0, .int .i64 0, .int .i64 0, .int .i64 0]) 6 Try.underlying33 hi0 hz0 hz1 .i64 .i64 _ (l.length + m.length + 1) rfl rfl (by omega) (by rw [hz2]; omega) (by show _ ≤ 2 ^ 63 - 1; omega) (by simp) ?_)))
  intro w2 ho2 hg2
  have HB2 : Hid (Below (w.heap.size + 1) (w.alloc (.cells #[.int .i64 op, .int .i64 ((l.length : Int) - 1), .int .i64 ((l.length : Int) + (m.length : Int) - 1), .int .i64 0, .int .i64 0, .int .i64 0] 50)) w2) := (Below.refl _ _).grown hg2 (by simp) (fun k hk => by cases hk)
  have HBw : Hid (Below w.heap.size w w2) := HW.out.trans (HB2.out.mono (by omega))
  have HL := hidE (moved_any (w.heap.size + 1) [] l _ (.slice ao l.length cap) 0 w2 (by have := HB2.out.size; rw [hsz] at this; omega) ho2 (by omega) (by simp) (rowG_below HU.out HBw.out) (fun g off n c e hn => Nat.lt_succ_of_lt (rowG_lo HU.out g off n c e hn)) H1.out (by decide) (by decide))
  clear ho2 hg2
  go_wp2_with fail
  refine HL.out.mono ?_
  rintro e w3 ⟨u1, rfl, ho3, hb3⟩
  simp only [List.nil_append, map_mv_zero] at ho3
  obtain ⟨ao3, cap3, rfl⟩ := owns_shapeE ho3
  have HB3 := hidE (HB2.out.trans hb3)
  have HBw := hidE (HBw.out.trans (hb3.mono (by omega)))
  have HM := hidE (moved_any (w.heap.size + 1) l m _ (.slice ao2 m.length cap2) (l.length : Int) w3 (by have := HB3.out.size; rw [hsz] at this; omega) ho3 (by omega) (by omega) (rowG_below HV.out HBw.out) (fun g off n c e hn => Nat.lt_succ_of_lt (rowG_lo HV.out g off n c e hn)) H2.out (by omega) (by omega))
  clear ho3 hb3 HL HB2
  go_wp2_with fail
  refine HM.out.mono ?_
  rintro e w4 ⟨u2, rfl, ho4, hb4⟩
  have HB4 := hidE (HB3.out.trans hb4)
  have HO4 := hidE ho4
  obtain ⟨ao4, cap4, rfl⟩ := owns_shapeE ho4
  clear ho4 hb4 HM HB3 HBw
  have hs4 : w.heap.size + 1 ≤ w4.heap.size := by have := HB4.out.size; rw [hsz] at this; omega
  have hcc : ∀ o, w4.cell? ⟨w.heap.size, o, none⟩ = (w.alloc (.cells #[.int .i64 op, .int .i64 ((l.length : Int) - 1), .int .i64 ((l.length : Int) + (m.length : Int) - 1), .int .i64 0, .int .i64 0, .int .i64 0] 50)).cell? ⟨w.heap.size, o, none⟩ := fun o => HB4.out.cell (p := ⟨w.heap.size, o, none⟩) (by simp)
  have c0 : w4.cell? ⟨w.heap.size, 0, none⟩ = some (.int .i64 op) := by rw [hcc]; go_simp
  have c1 : w4.cell? ⟨w.heap.size, 1, none⟩ = some (.int .i64 ((l.length : Int) - 1)) := by rw [hcc]; go_simp
  have c2 : w4.cell? ⟨w.heap.size, 2, none⟩ = some (.int .i64 ((l.length : Int) + (m.length : Int) - 1)) := by rw [hcc]; go_simp
  have c3 : w4.cell? ⟨w.heap.size, 3, none⟩ = some (.int .i64 0) := by rw [hcc]; go_simp
  have c4 : w4.cell? ⟨w.heap.size, 4, none⟩ = some (.int .i64 0) := by rw [hcc]; go_simp
  have c5 : w4.cell? ⟨w.heap.size, 5, none⟩ = some (.int .i64 0) := by rw [hcc]; go_simp
  have hus : (l ++ m.map (mv (l.length : Int))).length ≤ 200 := by simp; omega
  have HJ : Hid (joinL op l m = (l ++ m.map (mv (l.length : Int))) ++ [⟨op, (l.length : Int) - 1, ((l.length : Int) + (m.length : Int) - 1), 0, 0, 0⟩]) := rfl
  clear hcc
  generalize (l ++ m.map (mv (l.length : Int))) = us at *
  go_wp2_with (at_builtin; go_must (refine wpList_append_own _ rfl (.tmp 47) (.tmp 49) 33 rfl (w.heap.size + 1) 50 i0 (.agg #[.int .i64 0, .int .i64 0, .int .i64 0, .int .i64 0, .int .i64 0, .int .i64 0]) 6 48 Try.underlying33 hi0 hz0 hz1 hz2 rfl (by decide) _ _ _ rfl (HO4.out.alloc _) ⟨w4.heap.size, 0, none⟩ 1 1 [.int .i64 op, .int .i64 ((l.length : Int) - 1), .int .i64 ((l.length : Int) + (m.length : Int) - 1), .int .i64 0, .int .i64 0, .int .i64 0] rfl rfl (cell_six_newE _ _ _ _ _ _ _ _) (by intro u hu; simp at hu; rcases hu with rfl | rfl | rfl | rfl <;> rfl) (by show _ ≤ 2 ^ 63 - 1; omega) (by omega) (by simp; omega) ?_))
  intro v' w5 ho5 hg5 _
  have HB5 : Hid (Below (w.heap.size + 1) (w.alloc (.cells #[.int .i64 op, .int .i64 ((l.length : Int) - 1), .int .i64 ((l.length : Int) + (m.length : Int) - 1), .int .i64 0, .int .i64 0, .int .i64 0] 50)) w5) := (HB4.out.alloc (by omega) _).grown hg5 (by simp; omega) (fun k hk => (HO4.out.lt k hk).1)
  have ho6 : w5.ownsRow w.heap.size 50 6 v' (joinL op l m).length (rowN (joinL op l m)) := by
    rw [HJ.out, rowN_app, List.length_append]
    exact own_mono ho5 (by omega)
  have HO6 := hidE ho6
  have HBf := hidE (HW.out.trans (HB5.out.mono (by omega)))
  clear ho5 hg5 ho6 HB5 HB4 HO4
  go_wp2_with fail
  go_ret
  exact ⟨v', rfl, HO6.out, HBf.out⟩

set_option maxRecDepth 100000 in
set_option maxHeartbeats 2000000 in
theorem join_one (op : Int) (l m : List Nd) (u v : Value) (w : World) (hl : l.length ≤ 100) (hu : RowG w u 6 l.length (rowN l)) (hv : RowG w v 6 m.length (rowN m)) (h1 : ∀ n ∈ l, Mvb n) (ha : ar op = 1) :
    Calls Try.prog 27 #[.int .i64 op, u, v] w fun e w' => ∃ u', e = .returned u' ∧ w'.ownsRow w.heap.size 50 6 u' (join1 op l).length (rowN (join1 op l)) ∧ Below w.heap.size w w' := by
  obtain ⟨ao, cap, rfl⟩ := rowG_shape hu
  obtain ⟨ao2, cap2, rfl⟩ := rowG_shape hv
  obtain ⟨i0, hi0, hz0, hz1, hz2⟩ := info_parts infoN
  have HU := hidE hu
  have H1 := hidE h1
  clear hu hv h1
  have b1 : (ar op == 1) = true := by simp [ha]
  have HA := hidE (fun w => arity_any op w)
  clear ha
  have HW : Hid (Below w.heap.size w (w.alloc (.cells #[.int .i64 op, .int .i64 ((l.length : Int) - 1), .int .i64 0, .int .i64 0, .int .i64 0, .int .i64 0] 50))) := (Below.refl _ _).alloc (Nat.le_refl _) _
  have hsz : (w.alloc (.cells #[.int .i64 op, .int .i64 ((l.length : Int) - 1), .int .i64 0, .int .i64 0, .int .i64 0, .int .i64 0] 50)).heap.size = w.heap.size + 1 := by simp
  go_enter Try.func27, Try.ntmps27
  go_wp2_with (first | (go_at_call 17; refine (HA.out _).mono ?_; rintro e w' ⟨rfl, rfl⟩) | (at_make; go_must (refine wpList_make_own _ rfl _ _ 33 rfl (w.heap.size + 1) 50 i0 (.agg #[.int .i64 0, .int .i64 0, .int .i64 0, .int .i64 0, .int .i64 0, .int .i64 0]) 6 Try.underlying33 hi0 hz0 hz1 .i64 .i64 _ (l.length + 1) rfl rfl (by omega) (by rw [hz2]; omega) (by show _ ≤ 2 ^ 63 - 1; omega) (by simp) ?_)))
  intro w2 ho2 hg2
  have HB2 : Hid (Below (w.heap.size + 1) (w.alloc (.cells #[.int .i64 op, .int .i64 ((l.length : Int) - 1), .int .i64 0, .int .i64 0, .int .i64 0, .int .i64 0] 50)) w2) := (Below.refl _ _).grown hg2 (by simp) (fun k hk => by cases hk)
  have HBw : Hid (Below w.heap.size w w2) := HW.out.trans (HB2.out.mono (by omega))
  have HL := hidE (moved_any (w.heap.size + 1) [] l _ (.slice ao l.length cap) 0 w2 (by have := HB2.out.size; rw [hsz] at this; omega) ho2 (by omega) (by simp) (rowG_below HU.out HBw.out) (fun g off n c e hn => Nat.lt_succ_of_lt (rowG_lo HU.out g off n c e hn)) H1.out (by decide) (by decide))
  clear ho2 hg2
  go_wp2_with fail
  refine HL.out.mono ?_
  rintro e w3 ⟨u1, rfl, ho3, hb3⟩
  simp only [List.nil_append, map_mv_zero] at ho3
  obtain ⟨ao3, cap3, rfl⟩ := owns_shapeE ho3
  have HB3 := hidE (HB2.out.trans hb3)
  have HBw := hidE (HBw.out.trans (hb3.mono (by omega)))
  have HM := hidE (moved_any (w.heap.size + 1) l [] _ (.slice none 0 0) (l.length : Int) w3 (by have := HB3.out.size; rw [hsz] at this; omega) ho3 (by simp) (by omega) ⟨rfl, .inl ⟨⟨_, _, rfl⟩, rfl⟩⟩ (fun g off n c e => by cases e) (fun n hn => by cases hn) (by omega) (by omega))
  clear ho3 hb3 HL HB2
  go_wp2_with fail
  refine HM.out.mono ?_
  rintro e w4 ⟨u2, rfl, ho4, hb4⟩
  have HB4 := hidE (HB3.out.trans hb4)
  have HO4 := hidE ho4
  obtain ⟨ao4, cap4, rfl⟩ := owns_shapeE ho4
  clear ho4 hb4 HM HB3 HBw
  have hs4 : w.heap.size + 1 ≤ w4.heap.size := by have := HB4.out.size; rw [hsz] at this; omega
  have hcc : ∀ o, w4.cell? ⟨w.heap.size, o, none⟩ = (w.alloc (.cells #[.int .i64 op, .int .i64 ((l.length : Int) - 1), .int .i64 0, .int .i64 0, .int .i64 0, .int .i64 0] 50)).cell? ⟨w.heap.size, o, none⟩ := fun o => HB4.out.cell (p := ⟨w.heap.size, o, none⟩) (by simp)
  have c0 : w4.cell? ⟨w.heap.size, 0, none⟩ = some (.int .i64 op) := by rw [hcc]; go_simp
  have c1 : w4.cell? ⟨w.heap.size, 1, none⟩ = some (.int .i64 ((l.length : Int) - 1)) := by rw [hcc]; go_simp
  have c2 : w4.cell? ⟨w.heap.size, 2, none⟩ = some (.int .i64 0) := by rw [hcc]; go_simp
  have c3 : w4.cell? ⟨w.heap.size, 3, none⟩ = some (.int .i64 0) := by rw [hcc]; go_simp
  have c4 : w4.cell? ⟨w.heap.size, 4, none⟩ = some (.int .i64 0) := by rw [hcc]; go_simp
  have c5 : w4.cell? ⟨w.heap.size, 5, none⟩ = some (.int .i64 0) := by rw [hcc]; go_simp
  have hus : (l ++ ([] : List Nd).map (mv (l.length : Int))).length ≤ 200 := by simp; omega
  have HJ : Hid (join1 op l = (l ++ ([] : List Nd).map (mv (l.length : Int))) ++ [⟨op, (l.length : Int) - 1, 0, 0, 0, 0⟩]) := by show _ = _; simp [join1]
  clear hcc
  generalize (l ++ ([] : List Nd).map (mv (l.length : Int))) = us at *
  go_wp2_with (at_builtin; go_must (refine wpList_append_own _ rfl (.tmp 47) (.tmp 49) 33 rfl (w.heap.size + 1) 50 i0 (.agg #[.int .i64 0, .int .i64 0, .int .i64 0, .int .i64 0, .int .i64 0, .int .i64 0]) 6 48 Try.underlying33 hi0 hz0 hz1 hz2 rfl (by decide) _ _ _ rfl (HO4.out.alloc _) ⟨w4.heap.size, 0, none⟩ 1 1 [.int .i64 op, .int .i64 ((l.length : Int) - 1), .int .i64 0, .int .i64 0, .int .i64 0, .int .i64 0] rfl rfl (cell_six_newE _ _ _ _ _ _ _ _) (by intro u hu; simp at hu; rcases hu with rfl | rfl | rfl | rfl <;> rfl) (by show _ ≤ 2 ^ 63 - 1; omega) (by omega) (by simp; omega) ?_))
  intro v' w5 ho5 hg5 _
  have HB5 : Hid (Below (w.heap.size + 1) (w.alloc (.cells #[.int .i64 op, .int .i64 ((l.length : Int) - 1), .int .i64 0, .int .i64 0, .int .i64 0, .int .i64 0] 50)) w5) := (HB4.out.alloc (by omega) _).grown hg5 (by simp; omega) (fun k hk => (HO4.out.lt k hk).1)
  have ho6 : w5.ownsRow w.heap.size 50 6 v' (join1 op l).length (rowN (join1 op l)) := by
    rw [HJ.out, rowN_app, List.length_append]
    exact own_mono ho5 (by omega)
  have HO6 := hidE ho6
  have HBf := hidE (HW.out.trans (HB5.out.mono (by omega)))
  clear ho5 hg5 ho6 HB5 HB4 HO4
  go_wp2_with fail
  go_ret
  exact ⟨v', rfl, HO6.out, HBf.out⟩
end Go.Proofs.Ytepfpmagppckeaa

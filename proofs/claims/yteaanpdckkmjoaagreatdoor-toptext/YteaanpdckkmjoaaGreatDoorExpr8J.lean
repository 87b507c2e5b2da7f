/- Several texts in one, each with its own head. What is proved: what the parts say. Conditions: theirs. -/
import Derived.Test.YteaanpdckkmjoaaGreatDoorExpr3J
/- Contracts of moved and Join of package expr, over this seat's translation. Conditions: the nodes' parts are numbers that can be moved. -/
namespace Go.Proofs.YteaanpdckkmjoaaGreatDoor
open Go.ChangeShapes Go.WideShapes Go.ChangeAt Go.RowKit
set_option linter.unusedVariables false
set_option linter.unusedSimpArgs false

theorem infoN : (Tryz.prog.info? 91).map (fun i => (i.zero, i.size, i.bytes)) = some (some (.agg #[.int .i64 0, .int .i64 0, .int .i64 0, .int .i64 0, .int .i64 0, .int .i64 0]), 6, 48) := by kernel_rfl

theorem cell_six_newE (w : World) (a b c d x y : Value) (e : TypeId) : ∀ j u, ([a, b, c, d, x, y] : List Value)[j]? = some u → (w.alloc (.cells #[a, b, c, d, x, y] e)).cell? ((⟨w.heap.size, 0, none⟩ : Addr).add j) = some u := by
  intro j u h
  have hj : j < 6 := by simpa using (List.getElem?_eq_some_iff.1 h).1
  have := World.ownsRow_lit (base := 0) (size := 6) (e := e) w #[a, b, c, d, x, y] 1 (Nat.zero_le _) (by decide) rfl
  have := this.cellAt j (by omega)
  rw [show (⟨w.heap.size, 0, none⟩ : Addr).add j = ⟨w.heap.size, j, none⟩ from by rcases (by omega : j = 0 ∨ j = 1 ∨ j = 2 ∨ j = 3 ∨ j = 4 ∨ j = 5) with rfl | rfl | rfl | rfl | rfl | rfl <;> rfl, this]
  exact h

/-- parts that can be moved -/
def Mvb (n : Nd) : Prop := -1000 ≤ n.x ∧ n.x ≤ 1000 ∧ -1000 ≤ n.y ∧ n.y ≤ 1000

set_option maxRecDepth 100000 in
set_option maxHeartbeats 2000000 in
theorem moved_any (B : Nat) (to l : List Nd) (u v : Value) (by_ : Int) (w : World) (hB : B ≤ w.heap.size) (ho : w.ownsRow B 91 6 u to.length (rowN to)) (hl : l.length ≤ 1000) (ht : to.length ≤ 1000)
    (hr : RowG w v 6 l.length (rowN l)) (hlo : ∀ g off n c, v = .slice (some ⟨g, off, none⟩) n c → 0 < n → g < B) (hm : ∀ n ∈ l, Mvb n) (h1 : -1000 ≤ by_) (h2 : by_ ≤ 1000) :
    Calls Tryz.prog 132 #[u, v, .int .i64 by_] w fun e w' => ∃ u', e = .returned u' ∧ w'.ownsRow B 91 6 u' (to ++ l.map (mv by_)).length (rowN (to ++ l.map (mv by_))) ∧ Below B w w' := by
  obtain ⟨ao, cap, rfl⟩ := rowG_shape hr
  obtain ⟨ao2, cap2, rfl⟩ := owns_shapeE ho
  obtain ⟨i0, hi0, hz0, hz1, hz2⟩ := info_parts infoN
  have HR := hidE hr
  have HO := hidE ho
  have HLO := hidE hlo
  have HM := hidE hm
  clear hr ho hlo hm
  go_enter Tryz.func132, Tryz.ntmps132
  go_wp2_with fail
  go_loopw [0, 11] (fun v i wr => ∃ (m : Nat) (us : List Nd), m ≤ l.length ∧ i = .int .i64 m ∧ us.length ≤ to.length + m ∧ Hid (wr.ownsRow B 91 6 v us.length (rowN us)) ∧ Hid (Below B w wr) ∧ Hid (us = to ++ (l.take m).map (mv by_))) (fun _ i _ => l.length - (intOf i).toNat)
  case atStart => exact ⟨0, to, Nat.zero_le _, rfl, Nat.le_refl _, HO, Below.refl _ _, by show _ = _; simp⟩
  case round =>
    clear HO
    obtain ⟨m, us, hm, rfl, hus, HO, HB, HU⟩ := hrel
    obtain ⟨ao3, cap3, rfl⟩ := owns_shapeE HO.out
    by_cases hlt : m < l.length
    · obtain ⟨g, off, rfl, hnode, l1, l2, l3⟩ := rowN_node HR.out _ hlt
      have hgB := HLO.out g off _ _ rfl (by omega)
      obtain ⟨m1, m2, m3, m4⟩ := HM.out _ (List.getElem_mem hlt)
      have HTK : Hid (l.take (m + 1) = l.take m ++ [l[m]]) := by show _ = _; simp
      generalize l[m] = nd at *
      obtain ⟨n0, n1, n2, n3, n4, n5⟩ := nodeAt_below hnode HB.out hgB
      clear hnode
      unfold maxLen at l2
      obtain ⟨op, x, y, nn, k, nv⟩ := nd
      simp only at n0 n1 n2 n3 n4 n5 m1 m2 m3 m4
      by_cases a1 : ar op = 1
      · have b1 : (ar op == 1) = true := by simp [a1]
        have HMV : Hid (mv by_ ⟨op, x, y, nn, k, nv⟩ = ⟨op, x + by_, y, nn, k, nv⟩) := by show _ = _; unfold mv; rw [if_pos a1]
        clear a1
        go_wp2_with (first | (go_at_call 103; refine (arity_any _ _).mono ?_; rintro e w' ⟨rfl, rfl⟩) | (at_builtin; go_must (refine wpList_append_own _ rfl (.tmp 37) (.tmp 39) 23 rfl B 91 i0 (.agg #[.int .i64 0, .int .i64 0, .int .i64 0, .int .i64 0, .int .i64 0, .int .i64 0]) 6 48 Tryz.underlying23 hi0 hz0 hz1 hz2 rfl (by decide) _ _ _ rfl ((HO.out.alloc _).alloc _) ⟨wr.heap.size + 1, 0, none⟩ 1 1 (cellsN (⟨op, x + by_, y, nn, k, nv⟩ : Nd)) rfl rfl (by have q := cell_six_newE (wr.alloc (.cells (cellsN (⟨op, x + by_, y, nn, k, nv⟩ : Nd)).toArray 91)) (.int .i64 ((⟨op, x + by_, y, nn, k, nv⟩ : Nd)).op) (.int .i64 ((⟨op, x + by_, y, nn, k, nv⟩ : Nd)).x) (.int .i64 ((⟨op, x + by_, y, nn, k, nv⟩ : Nd)).y) (.int .i64 ((⟨op, x + by_, y, nn, k, nv⟩ : Nd)).n) (.int .i64 ((⟨op, x + by_, y, nn, k, nv⟩ : Nd)).k) (.int .i64 ((⟨op, x + by_, y, nn, k, nv⟩ : Nd)).v) 91; simpa [cellsN] using q) (by intro u hu; simp [cellsN] at hu; rcases hu with rfl | rfl | rfl | rfl | rfl | rfl <;> rfl) (by show _ ≤ 2 ^ 63 - 1; omega) (by omega) (by have := HB.out.size; simp; omega) ?_)))
        intro v' w5 ho5 hg5 _
        have ho6 : w5.ownsRow B 91 6 v' (us ++ [(⟨op, x + by_, y, nn, k, nv⟩ : Nd)]).length (rowN (us ++ [(⟨op, x + by_, y, nn, k, nv⟩ : Nd)])) := by
          rw [rowN_app, List.length_append]
          exact ho5
        have HO5 := hidE ho6
        have HB5 : Hid (Below B w w5) := ((HB.out.alloc (Nat.le_trans hB HB.out.size) _).alloc (by have := HB.out.size; simp; omega) _).grown hg5 (by have := HB.out.size; simp; omega) (fun k hk => (HO.out.lt k hk).1)
        clear ho5 hg5 ho6
        go_wp2_with fail
        go_roundw
        case rel => exact ⟨m + 1, us ++ [(⟨op, x + by_, y, nn, k, nv⟩ : Nd)], by omega, by go_num, by simp; omega, HO5, HB5, by show _ = _; rw [HU.out, HTK.out]; simp [HMV.out]⟩
        case measure => simp [intOf]; omega
      · have b1 : (ar op == 1) = false := by simp [a1]
        by_cases a2 : ar op = 2
        · have b2 : (ar op == 2) = true := by simp [a2]
          have HMV : Hid (mv by_ ⟨op, x, y, nn, k, nv⟩ = ⟨op, x + by_, y + by_, nn, k, nv⟩) := by show _ = _; unfold mv; rw [if_neg a1, if_pos a2]
          clear a1 a2
          go_wp2_with (first | (go_at_call 103; refine (arity_any _ _).mono ?_; rintro e w' ⟨rfl, rfl⟩) | (at_builtin; go_must (refine wpList_append_own _ rfl (.tmp 37) (.tmp 39) 23 rfl B 91 i0 (.agg #[.int .i64 0, .int .i64 0, .int .i64 0, .int .i64 0, .int .i64 0, .int .i64 0]) 6 48 Tryz.underlying23 hi0 hz0 hz1 hz2 rfl (by decide) _ _ _ rfl ((HO.out.alloc _).alloc _) ⟨wr.heap.size + 1, 0, none⟩ 1 1 (cellsN (⟨op, x + by_, y + by_, nn, k, nv⟩ : Nd)) rfl rfl (by have q := cell_six_newE (wr.alloc (.cells (cellsN (⟨op, x + by_, y + by_, nn, k, nv⟩ : Nd)).toArray 91)) (.int .i64 ((⟨op, x + by_, y + by_, nn, k, nv⟩ : Nd)).op) (.int .i64 ((⟨op, x + by_, y + by_, nn, k, nv⟩ : Nd)).x) (.int .i64 ((⟨op, x + by_, y + by_, nn, k, nv⟩ : Nd)).y) (.int .i64 ((⟨op, x + by_, y + by_, nn, k, nv⟩ : Nd)).n) (.int .i64 ((⟨op, x + by_, y + by_, nn, k, nv⟩ : Nd)).k) (.int .i64 ((⟨op, x + by_, y + by_, nn, k, nv⟩ : Nd)).v) 91; simpa [cellsN] using q) (by intro u hu; simp [cellsN] at hu; rcases hu with rfl | rfl | rfl | rfl | rfl | rfl <;> rfl) (by show _ ≤ 2 ^ 63 - 1; omega) (by omega) (by have := HB.out.size; simp; omega) ?_)))
          intro v' w5 ho5 hg5 _
          have ho6 : w5.ownsRow B 91 6 v' (us ++ [(⟨op, x + by_, y + by_, nn, k, nv⟩ : Nd)]).length (rowN (us ++ [(⟨op, x + by_, y + by_, nn, k, nv⟩ : Nd)])) := by
            rw [rowN_app, List.length_append]
            exact ho5
          have HO5 := hidE ho6
          have HB5 : Hid (Below B w w5) := ((HB.out.alloc (Nat.le_trans hB HB.out.size) _).alloc (by have := HB.out.size; simp; omega) _).grown hg5 (by have := HB.out.size; simp; omega) (fun k hk => (HO.out.lt k hk).1)
          clear ho5 hg5 ho6
          go_wp2_with fail
          go_roundw
          case rel => exact ⟨m + 1, us ++ [(⟨op, x + by_, y + by_, nn, k, nv⟩ : Nd)], by omega, by go_num, by simp; omega, HO5, HB5, by show _ = _; rw [HU.out, HTK.out]; simp [HMV.out]⟩
          case measure => simp [intOf]; omega
        · have b2 : (ar op == 2) = false := by simp [a2]
          have HMV : Hid (mv by_ ⟨op, x, y, nn, k, nv⟩ = ⟨op, x, y, nn, k, nv⟩) := by show _ = _; unfold mv; rw [if_neg a1, if_neg a2]
          clear a1 a2
          go_wp2_with (first | (go_at_call 103; refine (arity_any _ _).mono ?_; rintro e w' ⟨rfl, rfl⟩) | (at_builtin; go_must (refine wpList_append_own _ rfl (.tmp 37) (.tmp 39) 23 rfl B 91 i0 (.agg #[.int .i64 0, .int .i64 0, .int .i64 0, .int .i64 0, .int .i64 0, .int .i64 0]) 6 48 Tryz.underlying23 hi0 hz0 hz1 hz2 rfl (by decide) _ _ _ rfl ((HO.out.alloc _).alloc _) ⟨wr.heap.size + 1, 0, none⟩ 1 1 (cellsN (⟨op, x, y, nn, k, nv⟩ : Nd)) rfl rfl (by have q := cell_six_newE (wr.alloc (.cells (cellsN (⟨op, x, y, nn, k, nv⟩ : Nd)).toArray 91)) (.int .i64 ((⟨op, x, y, nn, k, nv⟩ : Nd)).op) (.int .i64 ((⟨op, x, y, nn, k, nv⟩ : Nd)).x) (.int .i64 ((⟨op, x, y, nn, k, nv⟩ : Nd)).y) (.int .i64 ((⟨op, x, y, nn, k, nv⟩ : Nd)).n) (.int .i64 ((⟨op, x, y, nn, k, nv⟩ : Nd)).k) (.int .i64 ((⟨op, x, y, nn, k, nv⟩ : Nd)).v) 91; simpa [cellsN] using q) (by intro u hu; simp [cellsN] at hu; rcases hu with rfl | rfl | rfl | rfl | rfl | rfl <;> rfl) (by show _ ≤ 2 ^ 63 - 1; omega) (by omega) (by have := HB.out.size; simp; omega) ?_)))
          intro v' w5 ho5 hg5 _
          have ho6 : w5.ownsRow B 91 6 v' (us ++ [(⟨op, x, y, nn, k, nv⟩ : Nd)]).length (rowN (us ++ [(⟨op, x, y, nn, k, nv⟩ : Nd)])) := by
            rw [rowN_app, List.length_append]
            exact ho5
          have HO5 := hidE ho6
          have HB5 : Hid (Below B w w5) := ((HB.out.alloc (Nat.le_trans hB HB.out.size) _).alloc (by have := HB.out.size; simp; omega) _).grown hg5 (by have := HB.out.size; simp; omega) (fun k hk => (HO.out.lt k hk).1)
          clear ho5 hg5 ho6
          go_wp2_with fail
          go_roundw
          case rel => exact ⟨m + 1, us ++ [(⟨op, x, y, nn, k, nv⟩ : Nd)], by omega, by go_num, by simp; omega, HO5, HB5, by show _ = _; rw [HU.out, HTK.out]; simp [HMV.out]⟩
          case measure => simp [intOf]; omega
    · have hml : m = l.length := by omega
      have hU := HU.out
      rw [hml, List.take_length] at hU
      have HU := hidE hU
      clear hU
      have hge : ¬ ((m : Int) < (l.length : Int)) := by omega
      clear hml hlt
      go_wp2_with fail
      go_ret
      have ho2 : wr.ownsRow B 91 6 (.slice ao3 us.length cap3) (to ++ l.map (mv by_)).length (rowN (to ++ l.map (mv by_))) := by rw [← HU.out]; exact HO.out
      rw [List.length_append, List.length_map] at ho2
      exact ⟨.slice ao3 us.length cap3, rfl, ho2, HB.out⟩

theorem rowG_lit6 (w : World) (n : Nd) (g : Nat) (hg : g = w.heap.size) : RowG (w.alloc (.cells #[.int .i64 n.op, .int .i64 n.x, .int .i64 n.y, .int .i64 n.n, .int .i64 n.k, .int .i64 n.v] 91)) (.slice (some ⟨g, 0, none⟩) 1 1) 6 1 (rowN [n]) := by
  subst hg
  have h := World.ownsRow_lit (base := 0) (size := 6) (e := 91) w #[.int .i64 n.op, .int .i64 n.x, .int .i64 n.y, .int .i64 n.n, .int .i64 n.k, .int .i64 n.v] 1 (Nat.zero_le _) (by decide) rfl
  exact rowG_of_owns h
theorem good_mvb {l : List Nd} {bs : List Nat} (h : Good l bs) (hl : l.length ≤ 100) : ∀ n ∈ l, Mvb n := by
  intro n hn
  obtain ⟨i, hi, rfl⟩ := List.getElem_of_mem hn
  have hi' := List.getElem?_eq_getElem hi
  obtain ⟨ok, a0, -⟩ := good_at h hi'
  obtain ⟨p1, p2⟩ := good_part h hi'
  have hle := ar_le l[i].op
  unfold okN at ok
  by_cases hb : badN l[i]
  · simp [hb] at ok
  unfold badN at hb
  unfold Mvb
  rcases (by omega : ar l[i].op = 0 ∨ ar l[i].op = 1 ∨ ar l[i].op = 2) with q | q | q
  · omega
  · have := p1 (by omega); omega
  · have := p1 (by omega); have := p2 q; omega
theorem good_ok {l : List Nd} {bs : List Nat} (h : Good l bs) : ∀ n ∈ l, okN n = 0 := by
  intro n hn
  obtain ⟨i, hi, rfl⟩ := List.getElem_of_mem hn
  exact (good_at h (List.getElem?_eq_getElem hi)).1
end Go.Proofs.YteaanpdckkmjoaaGreatDoor
/- The contract of Join of package expr, over this seat's translation. Conditions: the nodes may be. -/
namespace Go.Proofs.YteaanpdckkmjoaaGreatDoor
open Go.ChangeShapes Go.WideShapes Go.ChangeAt Go.RowKit
set_option linter.unusedVariables false
set_option linter.unusedSimpArgs false

theorem own_mono {w : World} {base base' : Nat} {e : TypeId} {size n : Nat} {v : Value} {xs : List Value} (h : w.ownsRow base e size v n xs) (hb : base' ≤ base) : w.ownsRow base' e size v n xs :=
  ⟨h.1, h.2.imp id fun ⟨g, cap, cur, a, b, c⟩ => ⟨g, cap, cur, a, Nat.le_trans hb b, c⟩⟩

theorem rowG_lo {w : World} {size n : Nat} {v : Value} {xs : List Value} (h : RowG w v size n xs) : ∀ g off m c, v = .slice (some ⟨g, off, none⟩) m c → 0 < m → g < w.heap.size := by
  intro g off m c e hm
  rcases h.2 with ⟨⟨ao, cap, h1⟩, -⟩ | ⟨g', off', cap, h1, -, -, h4, -⟩
  · rw [h1] at e
    simp only [Value.slice.injEq] at e
    omega
  · rw [h1] at e
    simp only [Value.slice.injEq, Option.some.injEq, Addr.mk.injEq] at e
    omega

set_option maxRecDepth 100000 in
set_option maxHeartbeats 2000000 in
theorem join_two (op : Int) (l m : List Nd) (u v : Value) (w : World) (hl : l.length ≤ 100) (hm : m.length ≤ 100) (hu : RowG w u 6 l.length (rowN l)) (hv : RowG w v 6 m.length (rowN m)) (h1 : ∀ n ∈ l, Mvb n) (h2 : ∀ n ∈ m, Mvb n) (ha : ar op = 2) :
    Calls Tryz.prog 124 #[.int .i64 op, u, v] w fun e w' => ∃ u', e = .returned u' ∧ w'.ownsRow w.heap.size 91 6 u' (joinL op l m).length (rowN (joinL op l m)) ∧ Below w.heap.size w w' := by
  obtain ⟨ao, cap, rfl⟩ := rowG_shape hu
  obtain ⟨ao2, cap2, rfl⟩ := rowG_shape hv
  obtain ⟨i0, hi0, hz0, hz1, hz2⟩ := info_parts infoN
  have HU := hidE hu
  have HV := hidE hv
  have H1 := hidE h1
  have H2 := hidE h2
  clear hu hv h1 h2
  have b1 : (ar op == 1) = false := by simp [ha]
  have b2 : (ar op == 2) = true := by simp [ha]
  have HA := hidE (fun w => arity_any op w)
  clear ha
  have HW : Hid (Below w.heap.size w (w.alloc (.cells #[.int .i64 op, .int .i64 ((l.length : Int) - 1), .int .i64 ((l.length : Int) + (m.length : Int) - 1), .int .i64 0, .int .i64 0, .int .i64 0] 91))) := (Below.refl _ _).alloc (Nat.le_refl _) _
  have hsz : (w.alloc (.cells #[.int .i64 op, .int .i64 ((l.length : Int) - 1), .int .i64 ((l.length : Int) + (m.length : Int) - 1), .int .i64 0, .int .i64 0, .int .i64 0] 91)).heap.size = w.heap.size + 1 := by simp
  go_enter Tryz.func124, Tryz.ntmps124
  go_wp2_with (first | (go_at_call 103; refine (HA.out _).mono ?_; rintro e w' ⟨rfl, rfl⟩) | (at_make; go_must (refine wpList_make_own _ rfl _ _ 23 rfl (w.heap.size + 1) 91 i0 (.agg #[.int .i64 0, .int .i64 0, .int .i64 0, .int .i64 0, .int .i64 0, .int .i64 0]) 6 Tryz.underlying23 hi0 hz0 hz1 .i64 .i64 _ (l.length + m.length + 1) rfl rfl (by omega) (by rw [hz2]; omega) (by show _ ≤ 2 ^ 63 - 1; omega) (by simp) ?_)))
  intro w2 ho2 hg2
  have HB2 : Hid (Below (w.heap.size + 1) (w.alloc (.cells #[.int .i64 op, .int .i64 ((l.length : Int) - 1), .int .i64 ((l.length : Int) + (m.length : Int) - 1), .int .i64 0, .int .i64 0, .int .i64 0] 91)) w2) := (Below.refl _ _).grown hg2 (by simp) (fun k hk => by cases hk)
  have HBw : Hid (Below w.heap.size w w2) := HW.out.trans (HB2.out.mono (by omega))
  have HL := hidE (moved_any (w.heap.size + 1) [] l _ (.slice ao l.length cap) 0 w2 (by have := HB2.out.size; rw [hsz] at this; omega) ho2 (by omega) (by simp) (rowG_below HU.out HBw.out) (fun g off n c e hn => Nat.lt_succ_of_lt (rowG_lo HU.out g off n c e hn)) H1.out (by decide) (by decide))
  clear ho2 hg2
  go_wp2_with fail
  refine HL.out.mono ?_
  rintro e w3 ⟨u1, rfl, ho3, hb3⟩
  simp only [List.nil_append, map_mv_zero] at ho3
  obtain ⟨ao3, cap3, rfl⟩ := owns_shapeE ho3
  have HB3 := hidE (HB2.out.trans hb3)
  have HBw := hidE (HBw.out.trans (hb3.mono (by omega)))
  have HM := hidE (moved_any (w.heap.size + 1) l m _ (.slice ao2 m.length cap2) (l.length : Int) w3 (by have := HB3.out.size; rw [hsz] at this; omega) ho3 (by omega) (by omega) (rowG_below HV.out HBw.out) (fun g off n c e hn => Nat.lt_succ_of_lt (rowG_lo HV.out g off n c e hn)) H2.out (by omega) (by omega))
  clear ho3 hb3 HL HB2
  go_wp2_with fail
  refine HM.out.mono ?_
  rintro e w4 ⟨u2, rfl, ho4, hb4⟩
  have HB4 := hidE (HB3.out.trans hb4)
  have HO4 := hidE ho4
  obtain ⟨ao4, cap4, rfl⟩ := owns_shapeE ho4
  clear ho4 hb4 HM HB3 HBw
  have hs4 : w.heap.size + 1 ≤ w4.heap.size := by have := HB4.out.size; rw [hsz] at this; omega
  have hcc : ∀ o, w4.cell? ⟨w.heap.size, o, none⟩ = (w.alloc (.cells #[.int .i64 op, .int .i64 ((l.length : Int) - 1), .int .i64 ((l.length : Int) + (m.length : Int) - 1), .int .i64 0, .int .i64 0, .int .i64 0] 91)).cell? ⟨w.heap.size, o, none⟩ := fun o => HB4.out.cell (p := ⟨w.heap.size, o, none⟩) (by simp)
  have c0 : w4.cell? ⟨w.heap.size, 0, none⟩ = some (.int .i64 op) := by rw [hcc]; go_simp
  have c1 : w4.cell? ⟨w.heap.size, 1, none⟩ = some (.int .i64 ((l.length : Int) - 1)) := by rw [hcc]; go_simp
  have c2 : w4.cell? ⟨w.heap.size, 2, none⟩ = some (.int .i64 ((l.length : Int) + (m.length : Int) - 1)) := by rw [hcc]; go_simp
  have c3 : w4.cell? ⟨w.heap.size, 3, none⟩ = some (.int .i64 0) := by rw [hcc]; go_simp
  have c4 : w4.cell? ⟨w.heap.size, 4, none⟩ = some (.int .i64 0) := by rw [hcc]; go_simp
  have c5 : w4.cell? ⟨w.heap.size, 5, none⟩ = some (.int .i64 0) := by rw [hcc]; go_simp
  have hus : (l ++ m.map (mv (l.length : Int))).length ≤ 200 := by simp; omega
  have HJ : Hid (joinL op l m = (l ++ m.map (mv (l.length : Int))) ++ [⟨op, (l.length : Int) - 1, ((l.length : Int) + (m.length : Int) - 1), 0, 0, 0⟩]) := rfl
  clear hcc
  generalize (l ++ m.map (mv (l.length : Int))) = us at *
  go_wp2_with (at_builtin; go_must (refine wpList_append_own _ rfl (.tmp 47) (.tmp 49) 23 rfl (w.heap.size + 1) 91 i0 (.agg #[.int .i64 0, .int .i64 0, .int .i64 0, .int .i64 0, .int .i64 0, .int .i64 0]) 6 48 Tryz.underlying23 hi0 hz0 hz1 hz2 rfl (by decide) _ _ _ rfl (HO4.out.alloc _) ⟨w4.heap.size, 0, none⟩ 1 1 [.int .i64 op, .int .i64 ((l.length : Int) - 1), .int .i64 ((l.length : Int) + (m.length : Int) - 1), .int .i64 0, .int .i64 0, .int .i64 0] rfl rfl (cell_six_newE _ _ _ _ _ _ _ _) (by intro u hu; simp at hu; rcases hu with rfl | rfl | rfl | rfl <;> rfl) (by show _ ≤ 2 ^ 63 - 1; omega) (by omega) (by simp; omega) ?_))
  intro v' w5 ho5 hg5 _
  have HB5 : Hid (Below (w.heap.size + 1) (w.alloc (.cells #[.int .i64 op, .int .i64 ((l.length : Int) - 1), .int .i64 ((l.length : Int) + (m.length : Int) - 1), .int .i64 0, .int .i64 0, .int .i64 0] 91)) w5) := (HB4.out.alloc (by omega) _).grown hg5 (by simp; omega) (fun k hk => (HO4.out.lt k hk).1)
  have ho6 : w5.ownsRow w.heap.size 91 6 v' (joinL op l m).length (rowN (joinL op l m)) := by
    rw [HJ.out, rowN_app, List.length_append]
    exact own_mono ho5 (by omega)
  have HO6 := hidE ho6
  have HBf := hidE (HW.out.trans (HB5.out.mono (by omega)))
  clear ho5 hg5 ho6 HB5 HB4 HO4
  go_wp2_with fail
  go_ret
  exact ⟨v', rfl, HO6.out, HBf.out⟩

set_option maxRecDepth 100000 in
set_option maxHeartbeats 2000000 in
theorem join_one (op : Int) (l m : List Nd) (u v : Value) (w : World) (hl : l.length ≤ 100) (hu : RowG w u 6 l.length (rowN l)) (hv : RowG w v 6 m.length (rowN m)) (h1 : ∀ n ∈ l, Mvb n) (ha : ar op = 1) :
    Calls Tryz.prog 124 #[.int .i64 op, u, v] w fun e w' => ∃ u', e = .returned u' ∧ w'.ownsRow w.heap.size 91 6 u' (join1 op l).length (rowN (join1 op l)) ∧ Below w.heap.size w w' := by
  obtain ⟨ao, cap, rfl⟩ := rowG_shape hu
  obtain ⟨ao2, cap2, rfl⟩ := rowG_shape hv
  obtain ⟨i0, hi0, hz0, hz1, hz2⟩ := info_parts infoN
  have HU := hidE hu
  have H1 := hidE h1
  clear hu hv h1
  have b1 : (ar op == 1) = true := by simp [ha]
  have HA := hidE (fun w => arity_any op w)
  clear ha
  have HW : Hid (Below w.heap.size w (w.alloc (.cells #[.int .i64 op, .int .i64 ((l.length : Int) - 1), .int .i64 0, .int .i64 0, .int .i64 0, .int .i64 0] 91))) := (Below.refl _ _).alloc (Nat.le_refl _) _
  have hsz : (w.alloc (.cells #[.int .i64 op, .int .i64 ((l.length : Int) - 1), .int .i64 0, .int .i64 0, .int .i64 0, .int .i64 0] 91)).heap.size = w.heap.size + 1 := by simp
  go_enter Tryz.func124, Tryz.ntmps124
  go_wp2_with (first | (go_at_call 103; refine (HA.out _).mono ?_; rintro e w' ⟨rfl, rfl⟩) | (at_make; go_must (refine wpList_make_own _ rfl _ _ 23 rfl (w.heap.size + 1) 91 i0 (.agg #[.int .i64 0, .int .i64 0, .int .i64 0, .int .i64 0, .int .i64 0, .int .i64 0]) 6 Tryz.underlying23 hi0 hz0 hz1 .i64 .i64 _ (l.length + 1) rfl rfl (by omega) (by rw [hz2]; omega) (by show _ ≤ 2 ^ 63 - 1; omega) (by simp) ?_)))
  intro w2 ho2 hg2
  have HB2 : Hid (Below (w.heap.size + 1) (w.alloc (.cells #[.int .i64 op, .int .i64 ((l.length : Int) - 1), .int .i64 0, .int .i64 0, .int .i64 0, .int .i64 0] 91)) w2) := (Below.refl _ _).grown hg2 (by simp) (fun k hk => by cases hk)
  have HBw : Hid (Below w.heap.size w w2) := HW.out.trans (HB2.out.mono (by omega))
  have HL := hidE (moved_any (w.heap.size + 1) [] l _ (.slice ao l.length cap) 0 w2 (by have := HB2.out.size; rw [hsz] at this; omega) ho2 (by omega) (by simp) (rowG_below HU.out HBw.out) (fun g off n c e hn => Nat.lt_succ_of_lt (rowG_lo HU.out g off n c e hn)) H1.out (by decide) (by decide))
  clear ho2 hg2
  go_wp2_with fail
  refine HL.out.mono ?_
  rintro e w3 ⟨u1, rfl, ho3, hb3⟩
  simp only [List.nil_append, map_mv_zero] at ho3
  obtain ⟨ao3, cap3, rfl⟩ := owns_shapeE ho3
  have HB3 := hidE (HB2.out.trans hb3)
  have HBw := hidE (HBw.out.trans (hb3.mono (by omega)))
  have HM := hidE (moved_any (w.heap.size + 1) l [] _ (.slice none 0 0) (l.length : Int) w3 (by have := HB3.out.size; rw [hsz] at this; omega) ho3 (by simp) (by omega) ⟨rfl, .inl ⟨⟨_, _, rfl⟩, rfl⟩⟩ (fun g off n c e => by cases e) (fun n hn => by cases hn) (by omega) (by omega))
  clear ho3 hb3 HL HB2
  go_wp2_with fail
  refine HM.out.mono ?_
  rintro e w4 ⟨u2, rfl, ho4, hb4⟩
  have HB4 := hidE (HB3.out.trans hb4)
  have HO4 := hidE ho4
  obtain ⟨ao4, cap4, rfl⟩ := owns_shapeE ho4
  clear ho4 hb4 HM HB3 HBw
  have hs4 : w.heap.size + 1 ≤ w4.heap.size := by have := HB4.out.size; rw [hsz] at this; omega
  have hcc : ∀ o, w4.cell? ⟨w.heap.size, o, none⟩ = (w.alloc (.cells #[.int .i64 op, .int .i64 ((l.length : Int) - 1), .int .i64 0, .int .i64 0, .int .i64 0, .int .i64 0] 91)).cell? ⟨w.heap.size, o, none⟩ := fun o => HB4.out.cell (p := ⟨w.heap.size, o, none⟩) (by simp)
  have c0 : w4.cell? ⟨w.heap.size, 0, none⟩ = some (.int .i64 op) := by rw [hcc]; go_simp
  have c1 : w4.cell? ⟨w.heap.size, 1, none⟩ = some (.int .i64 ((l.length : Int) - 1)) := by rw [hcc]; go_simp
  have c2 : w4.cell? ⟨w.heap.size, 2, none⟩ = some (.int .i64 0) := by rw [hcc]; go_simp
  have c3 : w4.cell? ⟨w.heap.size, 3, none⟩ = some (.int .i64 0) := by rw [hcc]; go_simp
  have c4 : w4.cell? ⟨w.heap.size, 4, none⟩ = some (.int .i64 0) := by rw [hcc]; go_simp
  have c5 : w4.cell? ⟨w.heap.size, 5, none⟩ = some (.int .i64 0) := by rw [hcc]; go_simp
  have hus : (l ++ ([] : List Nd).map (mv (l.length : Int))).length ≤ 200 := by simp; omega
  have HJ : Hid (join1 op l = (l ++ ([] : List Nd).map (mv (l.length : Int))) ++ [⟨op, (l.length : Int) - 1, 0, 0, 0, 0⟩]) := by show _ = _; simp [join1]
  clear hcc
  generalize (l ++ ([] : List Nd).map (mv (l.length : Int))) = us at *
  go_wp2_with (at_builtin; go_must (refine wpList_append_own _ rfl (.tmp 47) (.tmp 49) 23 rfl (w.heap.size + 1) 91 i0 (.agg #[.int .i64 0, .int .i64 0, .int .i64 0, .int .i64 0, .int .i64 0, .int .i64 0]) 6 48 Tryz.underlying23 hi0 hz0 hz1 hz2 rfl (by decide) _ _ _ rfl (HO4.out.alloc _) ⟨w4.heap.size, 0, none⟩ 1 1 [.int .i64 op, .int .i64 ((l.length : Int) - 1), .int .i64 0, .int .i64 0, .int .i64 0, .int .i64 0] rfl rfl (cell_six_newE _ _ _ _ _ _ _ _) (by intro u hu; simp at hu; rcases hu with rfl | rfl | rfl | rfl <;> rfl) (by show _ ≤ 2 ^ 63 - 1; omega) (by omega) (by simp; omega) ?_))
  intro v' w5 ho5 hg5 _
  have HB5 : Hid (Below (w.heap.size + 1) (w.alloc (.cells #[.int .i64 op, .int .i64 ((l.length : Int) - 1), .int .i64 0, .int .i64 0, .int .i64 0, .int .i64 0] 91)) w5) := (HB4.out.alloc (by omega) _).grown hg5 (by simp; omega) (fun k hk => (HO4.out.lt k hk).1)
  have ho6 : w5.ownsRow w.heap.size 91 6 v' (join1 op l).length (rowN (join1 op l)) := by
    rw [HJ.out, rowN_app, List.length_append]
    exact own_mono ho5 (by omega)
  have HO6 := hidE ho6
  have HBf := hidE (HW.out.trans (HB5.out.mono (by omega)))
  clear ho5 hg5 ho6 HB5 HB4 HO4
  go_wp2_with fail
  go_ret
  exact ⟨v', rfl, HO6.out, HBf.out⟩
end Go.Proofs.YteaanpdckkmjoaaGreatDoor

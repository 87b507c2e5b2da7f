/- Contracts of moved and Join of package expr, over this seat's translation. Conditions: the nodes' parts are numbers that can be moved. -/
import Derived.Test.YtepfpmagppckeaaExpr4
namespace Go.Proofs.Ytepfpmagppckeaa
open Go.ChangeShapes Go.WideShapes Go.ChangeAt Go.RowKit
set_option linter.unusedVariables false
set_option linter.unusedSimpArgs false

theorem infoN : (Try.prog.info? 50).map (fun i => (i.zero, i.size, i.bytes)) = some (some (.agg #[.int .i64 0, .int .i64 0, .int .i64 0, .int .i64 0, .int .i64 0, .int .i64 0]), 6, 48) := by kernel_rfl

theorem cell_six_newE (w : World) (a b c d x y : Value) (e : TypeId) : ∀ j u, ([a, b, c, d, x, y] : List Value)[j]? = some u → (w.alloc (.cells #[a, b, c, d, x, y] e)).cell? ((⟨w.heap.size, 0, none⟩ : Addr).add j) = some u := by
  intro j u h
  have hj : j < 6 := by simpa using (List.getElem?_eq_some_iff.1 h).1
  have := World.ownsRow_lit (base := 0) (size := 6) (e := e) w #[a, b, c, d, x, y] 1 (Nat.zero_le _) (by decide) rfl
  have := this.cellAt j (by omega)
  rw [show (⟨w.heap.size, 0, none⟩ : Addr).add j = ⟨w.heap.size, j, none⟩ from by rcases (by omega : j = 0 ∨ j = 1 ∨ j = 2 ∨ j = 3 ∨ j = 4 ∨ j = 5) with rfl | rfl | rfl | rfl | rfl | rfl <;> rfl, this]
  exact h

/-- parts that can be moved -/
def Mvb (n : Nd) : Prop := -1000 ≤ n.x ∧ n.x ≤ 1000 ∧ -1000 ≤ n.y ∧ n.y ≤ 1000

set_option maxRecDepth 100000 in
set_option maxHeartbeats 2000000 in
theorem moved_any (B : Nat) (to l : List Nd) (u v : Value) (by_ : Int) (w : World) (hB : B ≤ w.heap.size) (ho : w.ownsRow B 50 6 u to.length (rowN to)) (hl : l.length ≤ 1000) (ht : to.length ≤ 1000)
    (hr : RowG w v 6 l.length (rowN l)) (hlo : ∀ g off n c, v = .slice (some ⟨g, off, none⟩) n c → 0 < n → g < B) (hm : ∀ n ∈ l, Mvb n) (h1 : -1000 ≤ by_) (h2 : by_ ≤ 1000) :
    Calls Try.prog 51 #[u, v, .int .i64 by_] w fun e w' => ∃ u', e = .returned u' ∧ w'.ownsRow B 50 6 u' (to ++ l.map (mv by_)).length (rowN (to ++ l.map (mv by_))) ∧ Below B w w' := by
  obtain ⟨ao, cap, rfl⟩ := rowG_shape hr
  obtain ⟨ao2, cap2, rfl⟩ := owns_shapeE ho
  obtain ⟨i0, hi0, hz0, hz1, hz2⟩ := info_parts infoN
  have HR := hidE hr
  have HO := hidE ho
  have HLO := hidE hlo
  have HM := hidE hm
  clear hr ho hlo hm
  go_enter Try.func51, Try.ntmps51
  go_wp2_with fail
  go_loopw [0, 11] (fun v i wr => ∃ (m : Nat) (us : List Nd), m ≤ l.length ∧ i = .int .i64 m ∧ us.length ≤ to.length + m ∧ Hid (wr.ownsRow B 50 6 v us.length (rowN us)) ∧ Hid (Below B w wr) ∧ Hid (us = to ++ (l.take m).map (mv by_))) (fun _ i _ => l.length - (intOf i).toNat)
  case atStart => exact ⟨0, to, Nat.zero_le _, rfl, Nat.le_refl _, HO, Below.refl _ _, by show _ = _; simp⟩
  case round =>
    clear HO
    obtain ⟨m, us, hm, rfl, hus, HO, HB, HU⟩ := hrel
    obtain ⟨ao3, cap3, rfl⟩ := owns_shapeE HO.out
    by_cases hlt : m < l.length
    · obtain ⟨g, off, rfl, hnode, l1, l2, l3⟩ := rowN_node HR.out _ hlt
      have hgB := HLO.out g off _ _ rfl (by omega)
      obtain ⟨m1, m2, m3, m4⟩ := HM.out _ (List.getElem_mem hlt)
      have HTK : Hid (l.take (m + 1) = l.take m ++ [l[m]]) := by show _ = _; simp
      generalize l[m] = nd at *
      obtain ⟨n0, n1, n2, n3, n4, n5⟩ := nodeAt_below hnode HB.out hgB
      clear hnode
      unfold maxLen at l2
      obtain ⟨op, x, y, nn, k, nv⟩ := nd
      simp only at n0 n1 n2 n3 n4 n5 m1 m2 m3 m4
      by_cases a1 : ar op = 1
      · have b1 : (ar op == 1) = true := by simp [a1]
        have HMV : Hid (mv by_ ⟨op, x, y, nn, k, nv⟩ = ⟨op, x + by_, y, nn, k, nv⟩) := by show _ = _; unfold mv; rw [if_pos a1]
        clear a1
        go_wp2_with (first | (go_at_call 17; refine (arity_any _ _).mono ?_; rintro e w' ⟨rfl, rfl⟩) | (at_builtin; go_must (refine wpList_append_own _ rfl (.tmp 37) (.tmp 39) 33 rfl B 50 i0 (.agg #[.int .i64 0, .int .i64 0, .int .i64 0, .int .i64 0, .int .i64 0, .int .i64 0]) 6 48 Try.underlying33 hi0 hz0 hz1 hz2 rfl (by decide) _ _ _ rfl ((HO.out.alloc _).alloc _) ⟨wr.heap.size + 1, 0, none⟩ 1 1 (cellsN (⟨op, x + by_, y, nn, k, nv⟩ : Nd)) rfl rfl (by have q := cell_six_newE (wr.alloc (.cells (cellsN (⟨op, x + by_, y, nn, k, nv⟩ : Nd)).toArray 50)) (.int .i64 ((⟨op, x + by_, y, nn, k, nv⟩ : Nd)).op) (.int .i64 ((⟨op, x + by_, y, nn, k, nv⟩ : Nd)).x) (.int .i64 ((⟨op, x + by_, y, nn, k, nv⟩ : Nd)).y) (.int .i64 ((⟨op, x + by_, y, nn, k, nv⟩ : Nd)).n) (.int .i64 ((⟨op, x + by_, y, nn, k, nv⟩ : Nd)).k) (.int .i64 ((⟨op, x + by_, y, nn, k, nv⟩ : Nd)).v) 50; simpa [cellsN] using q) (by intro u hu; simp [cellsN] at hu; rcases hu with rfl | rfl | rfl | rfl | rfl | rfl <;> rfl) (by show _ ≤ 2 ^ 63 - 1; omega) (by omega) (by have := HB.out.size; simp; omega) ?_)))
        intro v' w5 ho5 hg5 _
        have ho6 : w5.ownsRow B 50 6 v' (us ++ [(⟨op, x + by_, y, nn, k, nv⟩ : Nd)]).length (rowN (us ++ [(⟨op, x + by_, y, nn, k, nv⟩ : Nd)])) := by
          rw [rowN_app, List.length_append]
          exact ho5
        have HO5 := hidE ho6
        have HB5 : Hid (Below B w w5) := ((HB.out.alloc (Nat.le_trans hB HB.out.size) _).alloc (by have := HB.out.size; simp; omega) _).grown hg5 (by have := HB.out.size; simp; omega) (fun k hk => (HO.out.lt k hk).1)
        clear ho5 hg5 ho6
        go_wp2_with fail
        go_roundw
        case rel => exact ⟨m + 1, us ++ [(⟨op, x + by_, y, nn, k, nv⟩ : Nd)], by omega, by go_num, by simp; omega, HO5, HB5, by show _ = _; rw [HU.out, HTK.out]; simp [HMV.out]⟩
        case measure => simp [intOf]; omega
      · have b1 : (ar op == 1) = false := by simp [a1]
        by_cases a2 : ar op = 2
        · have b2 : (ar op == 2) = true := by simp [a2]
          have HMV : Hid (mv by_ ⟨op, x, y, nn, k, nv⟩ = ⟨op, x + by_, y + by_, nn, k, nv⟩) := by show _ = _; unfold mv; rw [if_neg a1, if_pos a2]
          clear a1 a2
          go_wp2_with (first | (go_at_call 17; refine (arity_any _ _).mono ?_; rintro e w' ⟨rfl, rfl⟩) | (at_builtin; go_must (refine wpList_append_own _ rfl (.tmp 37) (.tmp 39) 33 rfl B 50 i0 (.agg #[.int .i64 0, .int .i64 0, .int .i64 0, .int .i64 0, .int .i64 0, .int .i64 0]) 6 48 Try.underlying33 hi0 hz0 hz1 hz2 rfl (by decide) _ _ _ rfl ((HO.out.alloc _).alloc _) ⟨wr.heap.size + 1, 0, none⟩ 1 1 (cellsN (⟨op, x + by_, y + by_, nn, k, nv⟩ : Nd)) rfl rfl (by have q := cell_six_newE (wr.alloc (.cells (cellsN (⟨op, x + by_, y + by_, nn, k, nv⟩ : Nd)).toArray 50)) (.int .i64 ((⟨op, x + by_, y + by_, nn, k, nv⟩ : Nd)).op) (.int .i64 ((⟨op, x + by_, y + by_, nn, k, nv⟩ : Nd)).x) (.int .i64 ((⟨op, x + by_, y + by_, nn, k, nv⟩ : Nd)).y) (.int .i64 ((⟨op, x + by_, y + by_, nn, k, nv⟩ : Nd)).n) (.int .i64 ((⟨op, x + by_, y + by_, nn, k, nv⟩ : Nd)).k) (.int .i64 ((⟨op, x + by_, y + by_, nn, k, nv⟩ : Nd)).v) 50; simpa [cellsN] using q) (by intro u hu; simp [cellsN] at hu; rcases hu with rfl | rfl | rfl | rfl | rfl | rfl <;> rfl) (by show _ ≤ 2 ^ 63 - 1; omega) (by omega) (by have := HB.out.size; simp; omega) ?_)))
          intro v' w5 ho5 hg5 _
          have ho6 : w5.ownsRow B 50 6 v' (us ++ [(⟨op, x + by_, y + by_, nn, k, nv⟩ : Nd)]).length (rowN (us ++ [(⟨op, x + by_, y + by_, nn, k, nv⟩ : Nd)])) := by
            rw [rowN_app, List.length_append]
            exact ho5
          have HO5 := hidE ho6
          have HB5 : Hid (Below B w w5) := ((HB.out.alloc (Nat.le_trans hB HB.out.size) _).alloc (by have := HB.out.size; simp; omega) _).grown hg5 (by have := HB.out.size; simp; omega) (fun k hk => (HO.out.lt k hk).1)
          clear ho5 hg5 ho6
          go_wp2_with fail
          go_roundw
          case rel => exact ⟨m + 1, us ++ [(⟨op, x + by_, y + by_, nn, k, nv⟩ : Nd)], by omega, by go_num, by simp; omega, HO5, HB5, by show _ = _; rw [HU.out, HTK.out]; simp [HMV.out]⟩
          case measure => simp [intOf]; omega
        · have b2 : (ar op == 2) = false := by simp [a2]
          have HMV : Hid (mv by_ ⟨op, x, y, nn, k, nv⟩ = ⟨op, x, y, nn, k, nv⟩) := by show _ = _; unfold mv; rw [if_neg a1, if_neg a2]
          clear a1 a2
          go_wp2_with (first | (go_at_call 17; refine (arity_any _ _).mono ?_; rintro e w' ⟨rfl, rfl⟩) | (at_builtin; go_must (refine wpList_append_own _ rfl (.tmp 37) (.tmp 39) 33 rfl B 50 i0 (.agg #[.int .i64 0, .int .i64 0, .int .i64 0, .int .i64 0, .int .i64 0, .int .i64 0]) 6 48 Try.underlying33 hi0 hz0 hz1 hz2 rfl (by decide) _ _ _ rfl ((HO.out.alloc _).alloc _) ⟨wr.heap.size + 1, 0, none⟩ 1 1 (cellsN (⟨op, x, y, nn, k, nv⟩ : Nd)) rfl rfl (by have q := cell_six_newE (wr.alloc (.cells (cellsN (⟨op, x, y, nn, k, nv⟩ : Nd)).toArray 50)) (.int .i64 ((⟨op, x, y, nn, k, nv⟩ : Nd)).op) (.int .i64 ((⟨op, x, y, nn, k, nv⟩ : Nd)).x) (.int .i64 ((⟨op, x, y, nn, k, nv⟩ : Nd)).y) (.int .i64 ((⟨op, x, y, nn, k, nv⟩ : Nd)).n) (.int .i64 ((⟨op, x, y, nn, k, nv⟩ : Nd)).k) (.int .i64 ((⟨op, x, y, nn, k, nv⟩ : Nd)).v) 50; simpa [cellsN] using q) (by intro u hu; simp [cellsN] at hu; rcases hu with rfl | rfl | rfl | rfl | rfl | rfl <;> rfl) (by show _ ≤ 2 ^ 63 - 1; omega) (by omega) (by have := HB.out.size; simp; omega) ?_)))
          intro v' w5 ho5 hg5 _
          have ho6 : w5.ownsRow B 50 6 v' (us ++ [(⟨op, x, y, nn, k, nv⟩ : Nd)]).length (rowN (us ++ [(⟨op, x, y, nn, k, nv⟩ : Nd)])) := by
            rw [rowN_app, List.length_append]
            exact ho5
          have HO5 := hidE ho6
          have HB5 : Hid (Below B w w5) := ((HB.out.alloc (Nat.le_trans hB HB.out.size) _).alloc (by have := HB.out.size; simp; omega) _).grown hg5 (by have := HB.out.size; simp; omega) (fun k hk => (HO.out.lt k hk).1)
          clear ho5 hg5 ho6
          go_wp2_with fail
          go_roundw
          case rel => exact ⟨m + 1, us ++ [(⟨op, x, y, nn, k, nv⟩ : Nd)], by omega, by go_num, by simp; omega, HO5, HB5, by show _ = _; rw [HU.out, HTK.out]; simp [HMV.out]⟩
          case measure => simp [intOf]; omega
    · have hml : m = l.length := by omega
      have hU := HU.out
      rw [hml, List.take_length] at hU
      have HU := hidE hU
      clear hU
      have hge : ¬ ((m : Int) < (l.length : Int)) := by omega
      clear hml hlt
      go_wp2_with fail
      go_ret
      have ho2 : wr.ownsRow B 50 6 (.slice ao3 us.length cap3) (to ++ l.map (mv by_)).length (rowN (to ++ l.map (mv by_))) := by rw [← HU.out]; exact HO.out
      rw [List.length_append, List.length_map] at ho2
      exact ⟨.slice ao3 us.length cap3, rfl, ho2, HB.out⟩
end Go.Proofs.Ytepfpmagppckeaa

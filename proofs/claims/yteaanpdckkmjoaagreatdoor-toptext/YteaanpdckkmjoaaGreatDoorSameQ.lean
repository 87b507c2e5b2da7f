/- The contract of SameQuery, of two alike, over this seat's translation. Conditions: both lie in memory. -/
import Derived.Test.YteaanpdckkmjoaaGreatDoorTx5
namespace Go.Proofs.YteaanpdckkmjoaaGreatDoor
open Go.ChangeShapes Go.WideShapes Go.ChangeAt Go.RowKit
set_option linter.unusedVariables false
set_option linter.unusedSimpArgs false

theorem neq_nodeQ (w : World) (a b c d x y : Int) : (binOp .neq 91 (.agg #[.int .i64 a, .int .i64 b, .int .i64 c, .int .i64 d, .int .i64 x, .int .i64 y]) (.agg #[.int .i64 a, .int .i64 b, .int .i64 c, .int .i64 d, .int .i64 x, .int .i64 y])).run Tryz.prog w = .ok (.bool false) w := by
  go_simp
attribute [local go_sem ↓] neq_nodeQ

theorem nodes_sameQ (w : World) (v u : Value) (l : List Nd) (hl : l.length ≤ 1000) (hx : RowG w v 6 l.length (rowN l)) (hy : RowG w u 6 l.length (rowN l)) :
    Calls Tryz.prog 38 #[v, u] w fun e w' => e = .returned (.bool true) ∧ Below w.heap.size w w' := by
  obtain ⟨ao, cap, rfl⟩ := rowG_shape hx
  obtain ⟨ao2, cap2, rfl⟩ := rowG_shape hy
  have HX := hidE hx
  have HY := hidE hy
  clear hx hy
  have kn := kin_some w
  obtain ⟨kc, kf⟩ := kin_rules w
  have hb : ((l.length : Int) != (l.length : Int)) = false := by simp
  go_enter Tryz.func38, Tryz.ntmps38
  go_wp2_with fail
  go_loopw [5] (fun i wr => ∃ k : Nat, k ≤ l.length ∧ i = .int .i64 k ∧ Hid (Below w.heap.size w wr)) (fun i _ => l.length - (intOf i).toNat)
  case atStart => exact ⟨0, Nat.zero_le _, rfl, Below.refl _ _⟩
  case round =>
    obtain ⟨k, hk, rfl, HB⟩ := hrel
    by_cases hlt : k < l.length
    · obtain ⟨g, off, rfl, ⟨n0, n1, n2, n3, n4, n5⟩, l1, l2, l3⟩ := rowN_node HX.out _ hlt
      obtain ⟨g2, off2, rfl, ⟨m0, m1, m2, m3, m4, m5⟩, p1, p2, p3⟩ := rowN_node HY.out _ hlt
      generalize l[k] = nd at *
      unfold maxLen at l2 p2
      go_wp2_with fail
      refine wp_region_kin HB (by kernel_rfl) (by kernel_rfl) ?_
      repeat (go_big_quiet_step (fail))
      refine wpQuiet_nil ?_
      rintro _ ⟨p, rfl⟩
      go_wp2_with fail
      go_roundw
      case rel => exact ⟨k + 1, by omega, by go_num, p.h⟩
      case measure => simp [intOf]; omega
    · have hkn : ¬ ((k : Int) < (l.length : Int)) := by omega
      go_wp2_with fail
      go_ret
      exact ⟨rfl, HB.out⟩

set_option maxRecDepth 100000 in
set_option maxHeartbeats 8000000 in
theorem query_same (w : World) (q : Qy) (va1 vw1 vb1 va2 vw2 vb2 : Value) (ps1 ps2 : List (AgQ × Value)) (h1 : QyG w va1 vw1 vb1 q ps1) (h2 : QyG w va2 vw2 vb2 q ps2) (hn : q.aggs.length ≤ 1000) :
    Calls Tryz.prog 14 #[qyV va1 vw1 vb1 q, qyV va2 vw2 vb2 q] w fun e w' => e = .returned (.bool true) ∧ Below w.heap.size w w' := by
  obtain ⟨ao1, cap1, rfl⟩ := rowG_shape h1.ag.row
  obtain ⟨aw1, cw1, rfl⟩ := rowG_shape h1.wh
  obtain ⟨ab1, cb1, rfl⟩ := rowG_shape h1.by_
  obtain ⟨ao2, cap2, rfl⟩ := rowG_shape h2.ag.row
  obtain ⟨aw2, cw2, rfl⟩ := rowG_shape h2.wh
  obtain ⟨ab2, cb2, rfl⟩ := rowG_shape h2.by_
  have l1 : ps1.length = q.aggs.length := by rw [← h1.qa]; simp
  have l2 : ps2.length = q.aggs.length := by rw [← h2.qa]; simp
  rw [l1] at h1 ⊢
  rw [l2] at h2 ⊢
  unfold qyV
  have b1 := below_alloc w (.cells #[.slice ao1 q.aggs.length cap1, .slice aw1 q.wh.length cw1, .slice ab1 q.bys.length cb1, .int .i64 q.size, .int .i64 q.slide, .int .i64 q.delay, .int .i64 q.late] 25)
  have b2 := below_alloc (w.alloc (.cells #[.slice ao1 q.aggs.length cap1, .slice aw1 q.wh.length cw1, .slice ab1 q.bys.length cb1, .int .i64 q.size, .int .i64 q.slide, .int .i64 q.delay, .int .i64 q.late] 25)) (.cells #[.slice ao2 q.aggs.length cap2, .slice aw2 q.wh.length cw2, .slice ab2 q.bys.length cb2, .int .i64 q.size, .int .i64 q.slide, .int .i64 q.delay, .int .i64 q.late] 25)
  have hz1 : (w.alloc (.cells #[.slice ao1 q.aggs.length cap1, .slice aw1 q.wh.length cw1, .slice ab1 q.bys.length cb1, .int .i64 q.size, .int .i64 q.slide, .int .i64 q.delay, .int .i64 q.late] 25)).heap.size = w.heap.size + 1 := by simp
  have B0 := hidE (b1.trans (b2.mono b1.size))
  have K1 := hidE (blk_below (blk_alloc w [.slice ao1 q.aggs.length cap1, .slice aw1 q.wh.length cw1, .slice ab1 q.bys.length cb1, .int .i64 q.size, .int .i64 q.slide, .int .i64 q.delay, .int .i64 q.late] 25) b2 (by simp))
  have K2 : Hid (BlkAt ((w.alloc (.cells #[.slice ao1 q.aggs.length cap1, .slice aw1 q.wh.length cw1, .slice ab1 q.bys.length cb1, .int .i64 q.size, .int .i64 q.slide, .int .i64 q.delay, .int .i64 q.late] 25)).alloc (.cells #[.slice ao2 q.aggs.length cap2, .slice aw2 q.wh.length cw2, .slice ab2 q.bys.length cb2, .int .i64 q.size, .int .i64 q.slide, .int .i64 q.delay, .int .i64 q.late] 25)) (w.heap.size + 1) [.slice ao2 q.aggs.length cap2, .slice aw2 q.wh.length cw2, .slice ab2 q.bys.length cb2, .int .i64 q.size, .int .i64 q.slide, .int .i64 q.delay, .int .i64 q.late]) := by
    have h9 := blk_alloc (w.alloc (.cells #[.slice ao1 q.aggs.length cap1, .slice aw1 q.wh.length cw1, .slice ab1 q.bys.length cb1, .int .i64 q.size, .int .i64 q.slide, .int .i64 q.delay, .int .i64 q.late] 25)) [.slice ao2 q.aggs.length cap2, .slice aw2 q.wh.length cw2, .slice ab2 q.bys.length cb2, .int .i64 q.size, .int .i64 q.slide, .int .i64 q.delay, .int .i64 q.late] 25
    rw [hz1] at h9
    exact h9
  have G1 := hidE (qyG_below h1 (b1.trans (b2.mono b1.size)))
  have G2 := hidE (qyG_below h2 (b1.trans (b2.mono b1.size)))
  have lw := h1.lw
  have lb := h1.lb
  have hb : ((q.aggs.length : Int) != (q.aggs.length : Int)) = false := by simp
  clear h1 h2 b1 b2 hz1
  go_enter Tryz.func14, Tryz.ntmps14
  go_wp2_with fail
  generalize ((w.alloc (.cells #[.slice ao1 q.aggs.length cap1, .slice aw1 q.wh.length cw1, .slice ab1 q.bys.length cb1, .int .i64 q.size, .int .i64 q.slide, .int .i64 q.delay, .int .i64 q.late] 25)).alloc (.cells #[.slice ao2 q.aggs.length cap2, .slice aw2 q.wh.length cw2, .slice ab2 q.bys.length cb2, .int .i64 q.size, .int .i64 q.slide, .int .i64 q.delay, .int .i64 q.late] 25)) = w0 at *
  refine (nodes_sameQ w0 _ _ q.wh lw G1.out.wh G2.out.wh).mono ?_
  rintro e wa ⟨rfl, hb1⟩
  have Ba := hidE (B0.out.trans (hb1.mono B0.out.size))
  have K1a := hidE (blk_below K1.out hb1 K1.out.lt)
  have K2a := hidE (blk_below K2.out hb1 K2.out.lt)
  have G1a := hidE (qyG_below G1.out hb1)
  have G2a := hidE (qyG_below G2.out hb1)
  have x2 := K1a.out.c 2 (by simp)
  have y2 := K2a.out.c 2 (by simp)
  simp only [List.getElem?_cons_zero, List.getElem?_cons_succ] at x2 y2
  clear hb1 K1 K2 G1 G2 B0
  go_wp2_with fail
  refine (nodes_sameQ wa _ _ q.bys lb G1a.out.by_ G2a.out.by_).mono ?_
  rintro e wb ⟨rfl, hb2⟩
  have Bb := hidE (Ba.out.trans (hb2.mono Ba.out.size))
  have K1b := hidE (blk_below K1a.out hb2 K1a.out.lt)
  have K2b := hidE (blk_below K2a.out hb2 K2a.out.lt)
  have G1b := hidE (qyG_below G1a.out hb2)
  have G2b := hidE (qyG_below G2a.out hb2)
  clear hb2 K1a K2a G1a G2a Ba x2 y2
  have x0 := K1b.out.c 0 (by simp)
  have x1 := K1b.out.c 1 (by simp)
  have x2 := K1b.out.c 2 (by simp)
  have x3 := K1b.out.c 3 (by simp)
  have x4 := K1b.out.c 4 (by simp)
  have x5 := K1b.out.c 5 (by simp)
  have x6 := K1b.out.c 6 (by simp)
  simp only [List.getElem?_cons_zero, List.getElem?_cons_succ] at x0 x1 x2 x3 x4 x5 x6
  have y0 := K2b.out.c 0 (by simp)
  have y1 := K2b.out.c 1 (by simp)
  have y2 := K2b.out.c 2 (by simp)
  have y3 := K2b.out.c 3 (by simp)
  have y4 := K2b.out.c 4 (by simp)
  have y5 := K2b.out.c 5 (by simp)
  have y6 := K2b.out.c 6 (by simp)
  simp only [List.getElem?_cons_zero, List.getElem?_cons_succ] at y0 y1 y2 y3 y4 y5 y6
  have lx := K1b.out.lt
  have ly := K2b.out.lt
  have kn := kin_some wb
  obtain ⟨kc, kf⟩ := kin_rules wb
  have HA1 : Hid (ps1.map Prod.fst = q.aggs) := G1b.out.qa
  have HA2 : Hid (ps2.map Prod.fst = q.aggs) := G2b.out.qa
  have HL1 : Hid (ps1.length = q.aggs.length) := l1
  have HL2 : Hid (ps2.length = q.aggs.length) := l2
  clear l1 l2
  go_wp2_with fail
  go_loopw [7] (fun i wr => ∃ k : Nat, k ≤ q.aggs.length ∧ i = .int .i64 k ∧ Hid (Below wb.heap.size wb wr)) (fun i _ => q.aggs.length - (intOf i).toNat)
  case atStart => exact ⟨0, Nat.zero_le _, rfl, Below.refl _ _⟩
  case round =>
    obtain ⟨k, hk, rfl, HB⟩ := hrel
    have xr0 := (HB.out.cell (p := ⟨w.heap.size, 0, none⟩) lx).trans x0
    by_cases hlt : k < q.aggs.length
    · have h1 : k < ps1.length := by rw [HL1.out]; exact hlt
      have h2 : k < ps2.length := by rw [HL2.out]; exact hlt
      have r1 : RowG wb (.slice ao1 ps1.length cap1) 2 ps1.length (rowOf cellsAg ps1) := by have := G1b.out.ag.row; rw [HL1.out] at this ⊢; exact this
      have r2 : RowG wb (.slice ao2 ps2.length cap2) 2 ps2.length (rowOf cellsAg ps2) := by have := G2b.out.ag.row; rw [HL2.out] at this ⊢; exact this
      obtain ⟨g1, o1, e1, hc1, -, q1, z1⟩ := rowOf_val cellsAg_len r1 k h1
      obtain ⟨g2, o2, e2, hc2, -, q2, z2⟩ := rowOf_val cellsAg_len r2 k h2
      subst e1 e2
      have n1 := G1b.out.ag.nds ps1[k] (List.getElem_mem h1)
      have n2 := G2b.out.ag.nds ps2[k] (List.getElem_mem h2)
      have ek : ps1[k].1 = ps2[k].1 := by
        have f1 : (ps1.map Prod.fst)[k]? = some ps1[k].1 := by simp [h1]
        have f2 : (ps2.map Prod.fst)[k]? = some ps2[k].1 := by simp [h2]
        rw [HA1.out] at f1
        rw [HA2.out] at f2
        rw [f1] at f2
        exact Option.some.inj f2
      generalize ps1[k] = p1 at *
      generalize ps2[k] = p2 at *
      obtain ⟨⟨k1, m1⟩, v1⟩ := p1
      obtain ⟨⟨k2, m2⟩, v2⟩ := p2
      simp only [AgQ.mk.injEq] at ek
      obtain ⟨rfl, rfl⟩ := ek
      have c10 : wb.cell? ⟨g1, o1 + k * 2, none⟩ = some (.int .i64 k1) := hc1 0 (by omega)
      have c11 : wb.cell? ⟨g1, o1 + k * 2 + 1, none⟩ = some v1 := hc1 1 (by omega)
      have c20 : wb.cell? ⟨g2, o2 + k * 2, none⟩ = some (.int .i64 k1) := hc2 0 (by omega)
      have c21 : wb.cell? ⟨g2, o2 + k * 2 + 1, none⟩ = some v2 := hc2 1 (by omega)
      have n11 : NodG wb v1 m1 := n1.1
      have n12 : m1.length ≤ 1000 := n1.2
      have n21 : NodG wb v2 m1 := n2.1
      clear n1 n2
      obtain ⟨a8, d8, rfl⟩ := rowG_shape n11
      obtain ⟨a9, d9, rfl⟩ := rowG_shape n21
      have NSK := fun p : Kin wb => kin_of (p := p) (nodes_sameQ p.w _ _ m1 n12 (rowG_below n11 p.h) (rowG_below n21 p.h))
      have NSH := hidE NSK
      have hkk : (k1 != k1) = false := by simp
      unfold maxLen at q1 q2
      have hi1 : (k : Int) < (q.aggs.length : Int) := by omega
      clear hc1 hc2 n11 n12 n21 r1 r2 h1 h2 NSK
      go_wp2_with fail
      refine wp_region_kin HB (by kernel_rfl) (by kernel_rfl) ?_
      repeat (go_big_quiet_step (exact NSH.out _))
      refine wpQuiet_nil ?_
      rintro _ ⟨p, rfl⟩
      go_wp2_with fail
      have HB2 : Hid (Below wb.heap.size wb p.w) := p.h
      refine wp_region_kin HB2 (by kernel_rfl) (by kernel_rfl) ?_
      repeat (go_big_quiet_step (fail))
      refine wpQuiet_nil ?_
      rintro _ ⟨p9, rfl⟩
      go_wp2_with fail
      go_roundw
      case rel => exact ⟨k + 1, by omega, by go_num, p9.h⟩
      case measure => simp [intOf]; omega
    · have hkn : ¬ ((k : Int) < (q.aggs.length : Int)) := by omega
      have K1r := hidE (blk_below K1b.out HB.out lx)
      have K2r := hidE (blk_below K2b.out HB.out ly)
      clear x0 x1 x2 x3 x4 x5 x6 y0 y1 y2 y3 y4 y5 y6 kc kf kn
      have x0 := K1r.out.c 0 (by simp)
      have x1 := K1r.out.c 1 (by simp)
      have x2 := K1r.out.c 2 (by simp)
      have x3 := K1r.out.c 3 (by simp)
      have x4 := K1r.out.c 4 (by simp)
      have x5 := K1r.out.c 5 (by simp)
      have x6 := K1r.out.c 6 (by simp)
      simp only [List.getElem?_cons_zero, List.getElem?_cons_succ] at x0 x1 x2 x3 x4 x5 x6
      have y0 := K2r.out.c 0 (by simp)
      have y1 := K2r.out.c 1 (by simp)
      have y2 := K2r.out.c 2 (by simp)
      have y3 := K2r.out.c 3 (by simp)
      have y4 := K2r.out.c 4 (by simp)
      have y5 := K2r.out.c 5 (by simp)
      have y6 := K2r.out.c 6 (by simp)
      simp only [List.getElem?_cons_zero, List.getElem?_cons_succ] at y0 y1 y2 y3 y4 y5 y6
      go_wp2_with fail
      go_ret
      exact ⟨rfl, Bb.out.trans (HB.out.mono Bb.out.size)⟩
end Go.Proofs.YteaanpdckkmjoaaGreatDoor

/- The law TopText's walk, over this seat's translation. Conditions: the library's tables and the fields' names lie. -/
import Derived.Test.YteaanpdckkmjoaaGreatDoorSameJ
namespace Go.Proofs.YteaanpdckkmjoaaGreatDoor
open Go.ChangeShapes Go.WideShapes Go.ChangeAt Go.RowKit
set_option linter.unusedVariables false
set_option linter.unusedSimpArgs false

set_option maxRecDepth 100000 in
set_option maxHeartbeats 8000000 in
theorem topText_walk (s : ByteArray) (w : World) (ht : TabQ w) :
    Calls Tryz.prog 4 #[.string s] w fun e w' => e = .returned (.bool true) ∧ Below w.heap.size w w' := by
  have P7 := parse_any lit7 w ht
  unfold ParseR at P7
  rw [parse7] at P7
  simp only at P7
  unfold lit7 at P7
  have P7H := hidE P7
  have HT := hidE ht
  have hcnt := ht.t.sz
  clear P7 ht
  go_enter Tryz.func4, Tryz.ntmps4
  go_wp2_with fail
  refine P7H.out.mono ?_
  rintro r w1 ⟨hb, va, vw, vb, ps, rfl, hqo⟩
  obtain ⟨a1, n1, c1, rfl⟩ : ∃ a n c, va = .slice a n c := by obtain ⟨a, c, e⟩ := owns_shapeE hqo.row; exact ⟨_, _, _, e⟩
  obtain ⟨a2, c2, e2⟩ := rowG_shape (optR_nod hqo.wh).1
  obtain ⟨a3, c3, e3⟩ := rowG_shape (optR_nod hqo.by_).1
  subst e2 e3
  have ew : q7.wh.length = 0 := rfl
  have eb : q7.bys.length = 0 := rfl
  have bv := below_alloc w1 (.cells #[.slice a1 n1 c1, .slice a2 0 c2, .slice a3 0 c3, .int .i64 7, .int .i64 7, .int .i64 0, .int .i64 0] 25)
  have TX := qtext_any _ _ _ q7 ps _ (qyO_G (qyO_below hqo bv)) chk7 ((HT.out.below hb).below bv)
  rw [text7] at TX
  unfold qyV lit7T at TX
  have TXH := hidE TX
  have B1 := hidE hb
  have BV := hidE (blk_alloc w1 [.slice a1 n1 c1, .slice a2 0 c2, .slice a3 0 c3, .int .i64 7, .int .i64 7, .int .i64 0, .int .i64 0] 25)
  have TV := hidE (tyAt_new w1 #[.slice a1 n1 c1, .slice a2 0 c2, .slice a3 0 c3, .int .i64 7, .int .i64 7, .int .i64 0, .int .i64 0] 25)
  have B2 := hidE (hb.trans (bv.mono hb.size))
  have T2 := hidE ((HT.out.below hb).below bv)
  have hz2 := bv.size
  have hz1 := hb.size
  unfold qyV
  clear hb hqo bv TX P7H HT
  go_wp2_with fail
  refine TXH.out.mono ?_
  rintro r w3 ⟨rfl, hb⟩
  have B3 := hidE (B2.out.trans (hb.mono B2.out.size))
  have BV3 := hidE (blk_below BV.out hb BV.out.lt)
  have TV3 := hidE (tyAt_kept TV.out (keptB_of_below (bad := fun _ => False) hb) id)
  have T3 := hidE (T2.out.below hb)
  have AS := hidE (asked_any s w3 T3.out)
  clear hb TXH B2 BV TV T2
  go_wp2_with fail
  refine AS.out.mono ?_
  rintro r w4 ⟨hb, hcase⟩
  have B4 := hidE (B3.out.trans (hb.mono B3.out.size))
  have BV4 := hidE (blk_below BV3.out hb BV3.out.lt)
  have TV4 := hidE (tyAt_kept TV3.out (keptB_of_below (bad := fun _ => False) hb) id)
  have T4 := hidE (T3.out.below hb)
  have lgq := BV4.out.lt
  have hz3 := B3.out.size
  have hle : w.heap.size ≤ w1.heap.size := hz1
  have f0 := BV4.out.fz 0
  have f1 := BV4.out.fz 1
  have f2 := BV4.out.fz 2
  have f3 := BV4.out.fz 3
  have f4 := BV4.out.fz 4
  have f5 := BV4.out.fz 5
  have f6 := BV4.out.fz 6
  have y0 := BV4.out.c 0 (by simp)
  have y1 := BV4.out.c 1 (by simp)
  have y2 := BV4.out.c 2 (by simp)
  have y3 := BV4.out.c 3 (by simp)
  have y4 := BV4.out.c 4 (by simp)
  have y5 := BV4.out.c 5 (by simp)
  have y6 := BV4.out.c 6 (by simp)
  simp only [List.getElem?_cons_zero, List.getElem?_cons_succ] at y0 y1 y2 y3 y4 y5 y6
  clear AS hb B3 BV3 TV3 T3
  rcases hcase with rfl | ⟨q, va, vw, vb, ps2, hp, rfl, hqo⟩
  · unfold qzV
    have KG : Hid (KeptB w4 (((((((w4.setCell ⟨w1.heap.size, 0, none⟩ (.slice none 0 0)).setCell ⟨w1.heap.size, 1, none⟩ (.slice none 0 0)).setCell ⟨w1.heap.size, 2, none⟩ (.slice none 0 0)).setCell ⟨w1.heap.size, 3, none⟩ (.int .i64 0)).setCell ⟨w1.heap.size, 4, none⟩ (.int .i64 0)).setCell ⟨w1.heap.size, 5, none⟩ (.int .i64 0)).setCell ⟨w1.heap.size, 6, none⟩ (.int .i64 0)) (fun q => q = w1.heap.size)) := (keptB_set (keptB_set (keptB_set (keptB_set (keptB_set (keptB_set (keptB_set (keptB_of_below (bad := fun q => q = w1.heap.size) (Below.refl w4.heap.size w4)) rfl 0 _) rfl 1 _) rfl 2 _) rfl 3 _) rfl 4 _) rfl 5 _) rfl 6 _)
    clear BV4 TV4 T4
    go_wp2_with fail
    go_ret
    exact ⟨rfl, keptB_below (kept_own (gp := w.heap.size) (keptB_of_below B4.out) KG.out hle) (Nat.le_refl _) (fun k e => by omega)⟩
  · obtain ⟨a4, n4, c4, rfl⟩ : ∃ a n c, va = .slice a n c := by obtain ⟨a, c, e⟩ := owns_shapeE hqo.row; exact ⟨_, _, _, e⟩
    obtain ⟨a5, c5, e2⟩ := rowG_shape (optR_nod hqo.wh).1
    obtain ⟨a6, c6, e3⟩ := rowG_shape (optR_nod hqo.by_).1
    subst e2 e3
    have Z := hidE (show BlkAt (((((((w4.setCell ⟨w1.heap.size, 0, none⟩ (.slice a4 n4 c4)).setCell ⟨w1.heap.size, 1, none⟩ (.slice a5 q.wh.length c5)).setCell ⟨w1.heap.size, 2, none⟩ (.slice a6 q.bys.length c6)).setCell ⟨w1.heap.size, 3, none⟩ (.int .i64 q.size)).setCell ⟨w1.heap.size, 4, none⟩ (.int .i64 q.slide)).setCell ⟨w1.heap.size, 5, none⟩ (.int .i64 q.delay)).setCell ⟨w1.heap.size, 6, none⟩ (.int .i64 q.late)) w1.heap.size [.slice a4 n4 c4, .slice a5 q.wh.length c5, .slice a6 q.bys.length c6, .int .i64 q.size, .int .i64 q.slide, .int .i64 q.delay, .int .i64 q.late] by simpa using (blk_set (blk_set (blk_set (blk_set (blk_set (blk_set (blk_set BV4.out 0 (.slice a4 n4 c4) (by simp)) 1 (.slice a5 q.wh.length c5) (by simp)) 2 (.slice a6 q.bys.length c6) (by simp)) 3 (.int .i64 q.size) (by simp)) 4 (.int .i64 q.slide) (by simp)) 5 (.int .i64 q.delay) (by simp)) 6 (.int .i64 q.late) (by simp)))
    have KG : Hid (KeptB w4 (((((((w4.setCell ⟨w1.heap.size, 0, none⟩ (.slice a4 n4 c4)).setCell ⟨w1.heap.size, 1, none⟩ (.slice a5 q.wh.length c5)).setCell ⟨w1.heap.size, 2, none⟩ (.slice a6 q.bys.length c6)).setCell ⟨w1.heap.size, 3, none⟩ (.int .i64 q.size)).setCell ⟨w1.heap.size, 4, none⟩ (.int .i64 q.slide)).setCell ⟨w1.heap.size, 5, none⟩ (.int .i64 q.delay)).setCell ⟨w1.heap.size, 6, none⟩ (.int .i64 q.late)) (fun q => q = w1.heap.size)) := (keptB_set (keptB_set (keptB_set (keptB_set (keptB_set (keptB_set (keptB_set (keptB_of_below (bad := fun q => q = w1.heap.size) (Below.refl w4.heap.size w4)) rfl 0 _) rfl 1 _) rfl 2 _) rfl 3 _) rfl 4 _) rfl 5 _) rfl 6 _)
    have QO5 := hidE (qyO_ty hqo KG.out TV4.out qty_node qty_agg)
    have hrt := rt_all hp
    have hck := (parse_nn hp).2
    have T5 := hidE (tabQ_keptB T4.out KG.out (fun k e => by omega))
    have B5 := hidE (keptB_below (kept_own (gp := w.heap.size) (keptB_of_below B4.out) KG.out hle) (Nat.le_refl _) (fun k e => by omega))
    clear hqo BV4 TV4 T4 KG B4 hp
    unfold qyV
    go_upto_region 7 with fail
    generalize (((((((w4.setCell ⟨w1.heap.size, 0, none⟩ (.slice a4 n4 c4)).setCell ⟨w1.heap.size, 1, none⟩ (.slice a5 q.wh.length c5)).setCell ⟨w1.heap.size, 2, none⟩ (.slice a6 q.bys.length c6)).setCell ⟨w1.heap.size, 3, none⟩ (.int .i64 q.size)).setCell ⟨w1.heap.size, 4, none⟩ (.int .i64 q.slide)).setCell ⟨w1.heap.size, 5, none⟩ (.int .i64 q.delay)).setCell ⟨w1.heap.size, 6, none⟩ (.int .i64 q.late)) = w5 at *
    clear f0 y0 f1 y1 f2 y2 f3 y3 f4 y4 f5 y5 f6 y6
    have d0 := Z.out.c 0 (by simp)
    have d1 := Z.out.c 1 (by simp)
    have d2 := Z.out.c 2 (by simp)
    have d3 := Z.out.c 3 (by simp)
    have d4 := Z.out.c 4 (by simp)
    have d5 := Z.out.c 5 (by simp)
    have d6 := Z.out.c 6 (by simp)
    simp only [List.getElem?_cons_zero, List.getElem?_cons_succ] at d0 d1 d2 d3 d4 d5 d6
    have TX := qtext_any _ _ _ q ps2 _ (qyO_G QO5.out) hck T5.out
    unfold qyV at TX
    have TXH := hidE TX
    have lg5 := Z.out.lt
    obtain ⟨tx, htx⟩ : ∃ t, qyB q = t := ⟨_, rfl⟩
    rw [htx] at TXH hrt
    clear TX
    go_wp2_with fail
    refine TXH.out.mono ?_
    rintro r w6 ⟨rfl, hb⟩
    have B6 := hidE (B5.out.trans (hb.mono B5.out.size))
    have Z6 := hidE (blk_below Z.out hb lg5)
    have QO6 := hidE (qyO_below QO5.out hb)
    have PR := parse_any tx w6 (T5.out.below hb)
    unfold ParseR at PR
    have lg6 := Z6.out.lt
    clear hb TXH Z B5 QO5 T5 d0 d1 d2 d3 d4 d5 d6
    rcases hrt with hrt | hrt
    · rw [hrt] at PR
      simp only at PR
      have PRH := hidE PR
      clear PR hrt
      go_wp2_with fail
      refine PRH.out.mono ?_
      rintro r w7 ⟨hb, va, vw, vb, ps3, rfl, hqo⟩
      obtain ⟨a7, n7, c7, rfl⟩ : ∃ a n c, va = .slice a n c := by obtain ⟨a, c, e⟩ := owns_shapeE hqo.row; exact ⟨_, _, _, e⟩
      obtain ⟨a8, c8, e2⟩ := rowG_shape (optR_nod hqo.wh).1
      obtain ⟨a9, c9, e3⟩ := rowG_shape (optR_nod hqo.by_).1
      subst e2 e3
      have bv := below_alloc w7 (.cells #[.slice a7 n7 c7, .slice a8 q.wh.length c8, .slice a9 q.bys.length c9, .int .i64 q.size, .int .i64 q.slide, .int .i64 q.delay, .int .i64 q.late] 25)
      have BP := hidE (blk_alloc w7 [.slice a7 n7 c7, .slice a8 q.wh.length c8, .slice a9 q.bys.length c9, .int .i64 q.size, .int .i64 q.slide, .int .i64 q.delay, .int .i64 q.late] 25)
      have Z8 := hidE (blk_below (blk_below Z6.out hb lg6) bv (by have := hb.size; omega))
      have B8 := hidE ((B6.out.trans (hb.mono B6.out.size)).trans (bv.mono (B6.out.trans (hb.mono B6.out.size)).size))
      have SQ := query_same (w7.alloc (.cells #[.slice a7 n7 c7, .slice a8 q.wh.length c8, .slice a9 q.bys.length c9, .int .i64 q.size, .int .i64 q.slide, .int .i64 q.delay, .int .i64 q.late] 25)) q _ _ _ _ _ _ ps3 ps2 (qyO_G (qyO_below hqo bv)) (qyO_G (qyO_below (qyO_below QO6.out hb) bv)) (by have := (okQ_of hck).n4; omega)
      unfold qyV at SQ
      have SQH := hidE SQ
      have N0 := fun w => number_0 w
      unfold qyV
      have d0 := BP.out.c 0 (by simp)
      have d1 := BP.out.c 1 (by simp)
      have d2 := BP.out.c 2 (by simp)
      have d3 := BP.out.c 3 (by simp)
      have d4 := BP.out.c 4 (by simp)
      have d5 := BP.out.c 5 (by simp)
      have d6 := BP.out.c 6 (by simp)
      simp only [List.getElem?_cons_zero, List.getElem?_cons_succ] at d0 d1 d2 d3 d4 d5 d6
      have e0 := Z8.out.c 0 (by simp)
      have e1 := Z8.out.c 1 (by simp)
      have e2 := Z8.out.c 2 (by simp)
      have e3 := Z8.out.c 3 (by simp)
      have e4 := Z8.out.c 4 (by simp)
      have e5 := Z8.out.c 5 (by simp)
      have e6 := Z8.out.c 6 (by simp)
      simp only [List.getElem?_cons_zero, List.getElem?_cons_succ] at e0 e1 e2 e3 e4 e5 e6
      clear hb hqo bv SQ PRH Z6 B6 QO6
      go_wp2_with (first | (go_at_call 16; refine (N0 _).mono ?_; rintro e w' ⟨rfl, rfl⟩) | (go_at_call 14; refine SQH.out.mono ?_; rintro e w8 ⟨rfl, hb8⟩; have HB8 := hidE hb8; clear hb8))
      go_ret
      exact ⟨rfl, B8.out.trans (HB8.out.mono B8.out.size)⟩
    · rw [hrt] at PR
      simp only at PR
      have PRH := hidE PR
      clear PR hrt
      go_wp2_with fail
      refine PRH.out.mono ?_
      rintro r w7 ⟨hb, rfl, -⟩
      have e2 : errC 2 = .iface 48 (.int .i64 2) := errC_ne (by decide)
      rw [e2]
      unfold qzV
      have bv := below_alloc w7 (.cells #[.slice none 0 0, .slice none 0 0, .slice none 0 0, .int .i64 0, .int .i64 0, .int .i64 0, .int .i64 0] 25)
      have B8 := hidE ((B6.out.trans (hb.mono B6.out.size)).trans (bv.mono (B6.out.trans (hb.mono B6.out.size)).size))
      have N2 := fun w => number_2 w
      clear hb bv PRH Z6 B6 QO6
      go_wp2_with (go_at_call 16; refine (N2 _).mono ?_; rintro e w' ⟨rfl, rfl⟩)
      go_ret
      exact ⟨rfl, B8.out⟩
end Go.Proofs.YteaanpdckkmjoaaGreatDoor

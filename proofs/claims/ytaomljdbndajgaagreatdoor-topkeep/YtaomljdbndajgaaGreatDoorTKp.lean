/- The law TopKeep, over this seat's translation. Conditions: the library's tables and the fields' names lie. -/
import Derived.Test.YtaomljdbndajgaaGreatDoorUptoJ
import Derived.Test.YtaomljdbndajgaaGreatDoorAskJ
namespace Go.Proofs.YtaomljdbndajgaaGreatDoor
open Go.ChangeShapes Go.WideShapes Go.ChangeAt Go.RowKit
set_option linter.unusedVariables false
set_option linter.unusedSimpArgs false

theorem infoEv7 : (Tryz.prog.info? 49).map (fun i => (i.zero, i.size, i.bytes)) = some (some (.agg #[.int .i64 0, .int .i64 0, .int .i64 0, .int .i64 0, .int .i64 0, .int .i64 0, .int .i64 0]), 7, 56) := by kernel_rfl
theorem evs_one : ∀ (l : List Ev), ∀ u ∈ rowOf cellsE l, u.oneCell' = true
  | [], u, h => by simp [rowOf] at h
  | x :: l, u, h => by
    rw [rowOf_cons] at h
    rcases List.mem_append.1 h with h | h
    · simp only [cellsE, List.mem_cons, List.not_mem_nil, or_false] at h
      rcases h with rfl | rfl | rfl | rfl | rfl | rfl | rfl <;> rfl
    · exact evs_one l u h
theorem two_parts {w : World} {v1 v2 : Value} {l1 l2 : List Ev} (h1 : RowG w v1 7 l1.length (rowOf cellsE l1)) (h2 : RowG w v2 7 l2.length (rowOf cellsE l2)) : PtsR (w.alloc (.cells #[v1, v2] 50)) (.slice (some ⟨w.heap.size, 0, none⟩) 2 2) [v1, v2] [l1, l2] := by
  have B := blk_alloc w [v1, v2] 50
  have hb := below_alloc w (.cells #[v1, v2] 50)
  refine ⟨⟨rfl, .inr ⟨w.heap.size, 0, 2, rfl, Nat.le_refl _, by decide, B.lt, fun j hj => ?_⟩⟩, rfl, fun j v l e1 e2 => ?_⟩
  · rw [Nat.zero_add]
    exact B.c j (by simpa using hj)
  · have hj : j < 2 := by simpa using (List.getElem?_eq_some_iff.1 e1).1
    rcases (by omega : j = 0 ∨ j = 1) with rfl | rfl
    · cases e1; cases e2
      exact rowG_below h1 hb
    · cases e1; cases e2
      exact rowG_below h2 hb
theorem one_part {w : World} {v1 : Value} {l1 : List Ev} (h1 : RowG w v1 7 l1.length (rowOf cellsE l1)) : PtsR (w.alloc (.cells #[v1] 50)) (.slice (some ⟨w.heap.size, 0, none⟩) 1 1) [v1] [l1] := by
  have B := blk_alloc w [v1] 50
  have hb := below_alloc w (.cells #[v1] 50)
  refine ⟨⟨rfl, .inr ⟨w.heap.size, 0, 1, rfl, Nat.le_refl _, by decide, B.lt, fun j hj => ?_⟩⟩, rfl, fun j v l e1 e2 => ?_⟩
  · rw [Nat.zero_add]
    exact B.c j (by simpa using hj)
  · have hj : j < 1 := by simpa using (List.getElem?_eq_some_iff.1 e1).1
    obtain rfl : j = 0 := by omega
    cases e1; cases e2
    exact rowG_below h1 hb
/-- the panes of an answer of at most 80 events are few -/
theorem allC_len80 {q : Qy} (hS : QyS q) {l : List Ev} (h : l.length ≤ 80) : (allC q [l]).length ≤ 320 := by
  rw [allC_cons, List.length_append]
  have := (partC_len hS l 0 false).1
  simp only [allC, List.flatMap_nil, List.length_nil]
  omega

set_option maxRecDepth 100000 in
set_option maxHeartbeats 1500000 in
theorem topKeep_walk (s : ByteArray) (pv mv : Value) (part more : List Ev) (w : World) (ht : TabQ w) (hP : RowG w pv 7 part.length (rowOf cellsE part)) (hM : RowG w mv 7 more.length (rowOf cellsE more)) (hp9 : isHand pv) (hm9 : isHand mv) (hpl : part.length ≤ maxLen) (hml : more.length ≤ maxLen) :
    Calls Tryz.prog 5 #[.string s, pv, mv] w fun e w' => e = .returned (.bool true) ∧ Below w.heap.size w w' := by
  obtain ⟨ap, cp, rfl⟩ := rowG_shape hP
  obtain ⟨am, cm, rfl⟩ := rowG_shape hM
  have PA := parse_any lit7 w ht
  unfold ParseR at PA
  rw [parse7] at PA
  simp only at PA
  unfold lit7 at PA
  have hc7 := chk7
  have h17 := one3
  generalize q7 = q at *
  have PAH := hidE PA
  have HT := hidE ht
  have HP := hidE hP
  have HM := hidE hM
  have HP9 := hidE hp9
  have HM9 := hidE hm9
  have HC := hidE hc7
  have H17 := hidE h17
  clear PA ht hP hM hp9 hm9 hc7 h17
  go_enter Tryz.func5, Tryz.ntmps5
  go_wp2_with fail
  refine PAH.out.mono ?_
  rintro r w1 ⟨hb, va, vw, vb, ps, rfl, hqo⟩
  have hqg := qyO_G hqo
  obtain ⟨ao, cap, rfl⟩ := rowG_shape hqg.ag.row
  obtain ⟨a2, c2, rfl⟩ := rowG_shape hqg.wh
  obtain ⟨a3, c3, rfl⟩ := rowG_shape hqg.by_
  have B2 := hidE (hb.trans ((below_alloc w1 (.cells #[Value.slice ao ps.length cap, Value.slice a2 q.wh.length c2, Value.slice a3 q.bys.length c3, Value.int .i64 q.size, Value.int .i64 q.slide, Value.int .i64 q.delay, Value.int .i64 q.late] 32)).mono hb.size))
  have G2 := hidE (qyG_below hqg (below_alloc w1 (.cells #[Value.slice ao ps.length cap, Value.slice a2 q.wh.length c2, Value.slice a3 q.bys.length c3, Value.int .i64 q.size, Value.int .i64 q.slide, Value.int .i64 q.delay, Value.int .i64 q.late] 32)))
  have BQ := hidE (blk_alloc w1 [Value.slice ao ps.length cap, Value.slice a2 q.wh.length c2, Value.slice a3 q.bys.length c3, Value.int .i64 q.size, Value.int .i64 q.slide, Value.int .i64 q.delay, Value.int .i64 q.late] 32)
  have hlt : w.heap.size ≤ w1.heap.size := hb.size
  have ba2 := below2 (w1.alloc (.cells #[Value.slice ao ps.length cap, Value.slice a2 q.wh.length c2, Value.slice a3 q.bys.length c3, Value.int .i64 q.size, Value.int .i64 q.slide, Value.int .i64 q.delay, Value.int .i64 q.late] 32)) (.cells #[.int .i64 3, .int .i64 0, .int .i64 0, .int .i64 0, .int .i64 0, .int .i64 0, .int .i64 0] 49) (.cells #[.slice (some ⟨(w1.alloc (.cells #[Value.slice ao ps.length cap, Value.slice a2 q.wh.length c2, Value.slice a3 q.bys.length c3, Value.int .i64 q.size, Value.int .i64 q.slide, Value.int .i64 q.delay, Value.int .i64 q.late] 32)).heap.size, 0, none⟩) 1 1] 50)
  have BE1 := blk_below (blk_alloc (w1.alloc (.cells #[Value.slice ao ps.length cap, Value.slice a2 q.wh.length c2, Value.slice a3 q.bys.length c3, Value.int .i64 q.size, Value.int .i64 q.slide, Value.int .i64 q.delay, Value.int .i64 q.late] 32)) [.int .i64 3, .int .i64 0, .int .i64 0, .int .i64 0, .int .i64 0, .int .i64 0, .int .i64 0] 49) (below_alloc ((w1.alloc (.cells #[Value.slice ao ps.length cap, Value.slice a2 q.wh.length c2, Value.slice a3 q.bys.length c3, Value.int .i64 q.size, Value.int .i64 q.slide, Value.int .i64 q.delay, Value.int .i64 q.late] 32)).alloc (.cells #[.int .i64 3, .int .i64 0, .int .i64 0, .int .i64 0, .int .i64 0, .int .i64 0, .int .i64 0] 49)) (.cells #[.slice (some ⟨(w1.alloc (.cells #[Value.slice ao ps.length cap, Value.slice a2 q.wh.length c2, Value.slice a3 q.bys.length c3, Value.int .i64 q.size, Value.int .i64 q.slide, Value.int .i64 q.delay, Value.int .i64 q.late] 32)).heap.size, 0, none⟩) 1 1] 50)) (by simp)
  have BE2 := blk_alloc ((w1.alloc (.cells #[Value.slice ao ps.length cap, Value.slice a2 q.wh.length c2, Value.slice a3 q.bys.length c3, Value.int .i64 q.size, Value.int .i64 q.slide, Value.int .i64 q.delay, Value.int .i64 q.late] 32)).alloc (.cells #[.int .i64 3, .int .i64 0, .int .i64 0, .int .i64 0, .int .i64 0, .int .i64 0, .int .i64 0] 49)) [.slice (some ⟨(w1.alloc (.cells #[Value.slice ao ps.length cap, Value.slice a2 q.wh.length c2, Value.slice a3 q.bys.length c3, Value.int .i64 q.size, Value.int .i64 q.slide, Value.int .i64 q.delay, Value.int .i64 q.late] 32)).heap.size, 0, none⟩) 1 1] 50
  have PT : PtsR (((w1.alloc (.cells #[Value.slice ao ps.length cap, Value.slice a2 q.wh.length c2, Value.slice a3 q.bys.length c3, Value.int .i64 q.size, Value.int .i64 q.slide, Value.int .i64 q.delay, Value.int .i64 q.late] 32)).alloc (.cells #[.int .i64 3, .int .i64 0, .int .i64 0, .int .i64 0, .int .i64 0, .int .i64 0, .int .i64 0] 49)).alloc (.cells #[.slice (some ⟨(w1.alloc (.cells #[Value.slice ao ps.length cap, Value.slice a2 q.wh.length c2, Value.slice a3 q.bys.length c3, Value.int .i64 q.size, Value.int .i64 q.slide, Value.int .i64 q.delay, Value.int .i64 q.late] 32)).heap.size, 0, none⟩) 1 1] 50)) (.slice (some ⟨((w1.alloc (.cells #[Value.slice ao ps.length cap, Value.slice a2 q.wh.length c2, Value.slice a3 q.bys.length c3, Value.int .i64 q.size, Value.int .i64 q.slide, Value.int .i64 q.delay, Value.int .i64 q.late] 32)).alloc (.cells #[.int .i64 3, .int .i64 0, .int .i64 0, .int .i64 0, .int .i64 0, .int .i64 0, .int .i64 0] 49)).heap.size, 0, none⟩) 1 1) [.slice (some ⟨(w1.alloc (.cells #[Value.slice ao ps.length cap, Value.slice a2 q.wh.length c2, Value.slice a3 q.bys.length c3, Value.int .i64 q.size, Value.int .i64 q.slide, Value.int .i64 q.delay, Value.int .i64 q.late] 32)).heap.size, 0, none⟩) 1 1] [[ev3]] := by
    refine ⟨⟨rfl, .inr ⟨((w1.alloc (.cells #[Value.slice ao ps.length cap, Value.slice a2 q.wh.length c2, Value.slice a3 q.bys.length c3, Value.int .i64 q.size, Value.int .i64 q.slide, Value.int .i64 q.delay, Value.int .i64 q.late] 32)).alloc (.cells #[.int .i64 3, .int .i64 0, .int .i64 0, .int .i64 0, .int .i64 0, .int .i64 0, .int .i64 0] 49)).heap.size, 0, 1, rfl, Nat.le_refl _, by decide, BE2.lt, fun j hj => ?_⟩⟩, rfl, fun j v l h1 h2 => ?_⟩
    · have : j < 1 := by simpa using hj
      have : j = 0 := by omega
      subst this
      exact BE2.c 0 (by simp)
    · have : j = 0 := by
        have := (List.getElem?_eq_some_iff.1 h1).1
        simpa using this
      subst this
      cases h1
      cases h2
      refine ⟨rfl, .inr ⟨(w1.alloc (.cells #[Value.slice ao ps.length cap, Value.slice a2 q.wh.length c2, Value.slice a3 q.bys.length c3, Value.int .i64 q.size, Value.int .i64 q.slide, Value.int .i64 q.delay, Value.int .i64 q.late] 32)).heap.size, 0, 1, rfl, Nat.le_refl _, by decide, BE1.lt, fun j hj => ?_⟩⟩
      rw [Nat.zero_add]
      exact BE1.c j (by simpa using hj)
  have A1 := answer_any _ _ _ _ q ps _ [[ev3]] _ (qyG_below G2.out ba2) HC.out PT (by decide) (fun l hl => by rw [List.mem_singleton.1 hl]; decide)
  unfold qyV at A1 ⊢
  generalize allN q [[ev3]] = n3 at *
  have b5 := B2.out.trans (ba2.mono B2.out.size)
  have bq5 := blk_below BQ.out ba2 BQ.out.lt
  simp only [World.size_alloc] at A1 b5 bq5
  have A1H := hidE A1
  have B5 := hidE b5
  have BQ5 := hidE bq5
  have hq0 : w1.heap.size < ((w1.alloc (.cells #[Value.slice ao ps.length cap, Value.slice a2 q.wh.length c2, Value.slice a3 q.bys.length c3, Value.int .i64 q.size, Value.int .i64 q.slide, Value.int .i64 q.delay, Value.int .i64 q.late] 32))).heap.size := BQ.out.lt
  clear A1 b5 bq5 PT BE1 BE2 ba2 B2 BQ G2 hb hqg hqo PAH
  go_wp2_with fail
  refine A1H.out.mono ?_
  rintro e w6 ⟨u6, os6, tbl6, rfl, hp, ho, hot, hb⟩
  have hos : os6.length = 1 := by
    rw [os_len ho]
    exact ofT_one hot H17.out
  obtain ⟨a6, c6, rfl⟩ := owns_shapeE hp.row
  rw [hos]
  have hsz : (((w1.alloc (.cells #[Value.slice ao ps.length cap, Value.slice a2 q.wh.length c2, Value.slice a3 q.bys.length c3, Value.int .i64 q.size, Value.int .i64 q.slide, Value.int .i64 q.delay, Value.int .i64 q.late] 32)).alloc (.cells #[.int .i64 3, .int .i64 0, .int .i64 0, .int .i64 0, .int .i64 0, .int .i64 0, .int .i64 0] 49)).alloc (.cells #[.slice (some ⟨w1.heap.size + 1, 0, none⟩) 1 1] 50)).heap.size = w1.heap.size + 1 + 1 + 1 := by simp
  rw [← hsz] at hb
  clear hsz
  have B6 := nxt B5 hb
  have BQ6 := hidE (blk_below BQ5.out hb BQ5.out.lt)
  have ASK := asked_any s w6 (HT.out.below B6.out)
  unfold AskR at ASK
  have ASKH := hidE ASK
  clear hp ho hot hb hos A1H B5 BQ5 ASK H17 HC hq0
  go_wp2_with fail
  refine ASKH.out.mono ?_
  rintro r w7 ⟨hb, hr⟩
  have B7 := nxt B6 hb
  have BQ7 := hidE (blk_below BQ6.out hb BQ6.out.lt)
  have hgq6 := BQ6.out.lt
  clear ASKH B6 BQ6
  have q0 : w7.cell? ⟨w1.heap.size, 0, none⟩ = some (Value.slice ao ps.length cap) := BQ7.out.c 0 (by simp)
  have q1 : w7.cell? ⟨w1.heap.size, 1, none⟩ = some (Value.slice a2 q.wh.length c2) := BQ7.out.c 1 (by simp)
  have q2 : w7.cell? ⟨w1.heap.size, 2, none⟩ = some (Value.slice a3 q.bys.length c3) := BQ7.out.c 2 (by simp)
  have q3 : w7.cell? ⟨w1.heap.size, 3, none⟩ = some (Value.int .i64 q.size) := BQ7.out.c 3 (by simp)
  have q4 : w7.cell? ⟨w1.heap.size, 4, none⟩ = some (Value.int .i64 q.slide) := BQ7.out.c 4 (by simp)
  have q5 : w7.cell? ⟨w1.heap.size, 5, none⟩ = some (Value.int .i64 q.delay) := BQ7.out.c 5 (by simp)
  have q6 : w7.cell? ⟨w1.heap.size, 6, none⟩ = some (Value.int .i64 q.late) := BQ7.out.c 6 (by simp)
  have f0 := BQ7.out.fz 0
  have f1 := BQ7.out.fz 1
  have f2 := BQ7.out.fz 2
  have f3 := BQ7.out.fz 3
  have f4 := BQ7.out.fz 4
  have f5 := BQ7.out.fz 5
  have f6 := BQ7.out.fz 6
  have lq := BQ7.out.lt
  rcases hr with rfl | ⟨qq, va, vw, vb, pp, hpq, rfl, hqo⟩
  · unfold qzV
    have BZ9 : Hid (Below w.heap.size w (((((((w7.setCell ⟨w1.heap.size, 0, none⟩ (.slice none 0 0)).setCell ⟨w1.heap.size, 1, none⟩ (.slice none 0 0)).setCell ⟨w1.heap.size, 2, none⟩ (.slice none 0 0)).setCell ⟨w1.heap.size, 3, none⟩ (.int .i64 0)).setCell ⟨w1.heap.size, 4, none⟩ (.int .i64 0)).setCell ⟨w1.heap.size, 5, none⟩ (.int .i64 0)).setCell ⟨w1.heap.size, 6, none⟩ (.int .i64 0))) := B7.out.trans (keptB_below (keptB_set (keptB_set (keptB_set (keptB_set (keptB_set (keptB_set (keptB_set (keptB_of_below (bad := fun k => k = w1.heap.size) (Below.refl w7.heap.size w7)) rfl 0 (.slice none 0 0)) rfl 1 (.slice none 0 0)) rfl 2 (.slice none 0 0)) rfl 3 (.int .i64 0)) rfl 4 (.int .i64 0)) rfl 5 (.int .i64 0)) rfl 6 (.int .i64 0)) B7.out.size (fun k e => by omega))
    clear BQ7 hb
    go_wp2_with fail
    go_ret
    exact ⟨rfl, BZ9.out⟩
  · have hqg := qyO_G hqo
    obtain ⟨o1, d1, rfl⟩ := rowG_shape hqg.ag.row
    obtain ⟨o2, d2, rfl⟩ := rowG_shape hqg.wh
    obtain ⟨o3, d3, rfl⟩ := rowG_shape hqg.by_
    have KZ : KeptB w7 (((((((w7.setCell ⟨w1.heap.size, 0, none⟩ (Value.slice o1 pp.length d1)).setCell ⟨w1.heap.size, 1, none⟩ (Value.slice o2 qq.wh.length d2)).setCell ⟨w1.heap.size, 2, none⟩ (Value.slice o3 qq.bys.length d3)).setCell ⟨w1.heap.size, 3, none⟩ (Value.int .i64 qq.size)).setCell ⟨w1.heap.size, 4, none⟩ (Value.int .i64 qq.slide)).setCell ⟨w1.heap.size, 5, none⟩ (Value.int .i64 qq.delay)).setCell ⟨w1.heap.size, 6, none⟩ (Value.int .i64 qq.late)) (fun k => k = w1.heap.size) := (keptB_set (keptB_set (keptB_set (keptB_set (keptB_set (keptB_set (keptB_set (keptB_of_below (bad := fun k => k = w1.heap.size) (Below.refl w7.heap.size w7)) rfl 0 (Value.slice o1 pp.length d1)) rfl 1 (Value.slice o2 qq.wh.length d2)) rfl 2 (Value.slice o3 qq.bys.length d3)) rfl 3 (Value.int .i64 qq.size)) rfl 4 (Value.int .i64 qq.slide)) rfl 5 (Value.int .i64 qq.delay)) rfl 6 (Value.int .i64 qq.late))
    have BZ : BlkAt (((((((w7.setCell ⟨w1.heap.size, 0, none⟩ (Value.slice o1 pp.length d1)).setCell ⟨w1.heap.size, 1, none⟩ (Value.slice o2 qq.wh.length d2)).setCell ⟨w1.heap.size, 2, none⟩ (Value.slice o3 qq.bys.length d3)).setCell ⟨w1.heap.size, 3, none⟩ (Value.int .i64 qq.size)).setCell ⟨w1.heap.size, 4, none⟩ (Value.int .i64 qq.slide)).setCell ⟨w1.heap.size, 5, none⟩ (Value.int .i64 qq.delay)).setCell ⟨w1.heap.size, 6, none⟩ (Value.int .i64 qq.late)) w1.heap.size [Value.slice o1 pp.length d1, Value.slice o2 qq.wh.length d2, Value.slice o3 qq.bys.length d3, Value.int .i64 qq.size, Value.int .i64 qq.slide, Value.int .i64 qq.delay, Value.int .i64 qq.late] := by simpa using (blk_set (blk_set (blk_set (blk_set (blk_set (blk_set (blk_set BQ7.out 0 (Value.slice o1 pp.length d1) (by simp)) 1 (Value.slice o2 qq.wh.length d2) (by simp)) 2 (Value.slice o3 qq.bys.length d3) (by simp)) 3 (Value.int .i64 qq.size) (by simp)) 4 (Value.int .i64 qq.slide) (by simp)) 5 (Value.int .i64 qq.delay) (by simp)) 6 (Value.int .i64 qq.late) (by simp))
    have QZ : QyO (((((((w7.setCell ⟨w1.heap.size, 0, none⟩ (Value.slice o1 pp.length d1)).setCell ⟨w1.heap.size, 1, none⟩ (Value.slice o2 qq.wh.length d2)).setCell ⟨w1.heap.size, 2, none⟩ (Value.slice o3 qq.bys.length d3)).setCell ⟨w1.heap.size, 3, none⟩ (Value.int .i64 qq.size)).setCell ⟨w1.heap.size, 4, none⟩ (Value.int .i64 qq.slide)).setCell ⟨w1.heap.size, 5, none⟩ (Value.int .i64 qq.delay)).setCell ⟨w1.heap.size, 6, none⟩ (Value.int .i64 qq.late)) w6.heap.size _ _ _ qq pp := ⟨hqo.qa, own_kept hqo.row KZ (fun k e h9 => by have := (own_at hqo.row k e).1; omega), fun p hp => optR_kept (hqo.nds p hp) KZ (fun k e => by omega), optR_kept hqo.wh KZ (fun k e => by omega), optR_kept hqo.by_ KZ (fun k e => by omega)⟩
    have B8 : Hid (Below w.heap.size w (((((((w7.setCell ⟨w1.heap.size, 0, none⟩ (Value.slice o1 pp.length d1)).setCell ⟨w1.heap.size, 1, none⟩ (Value.slice o2 qq.wh.length d2)).setCell ⟨w1.heap.size, 2, none⟩ (Value.slice o3 qq.bys.length d3)).setCell ⟨w1.heap.size, 3, none⟩ (Value.int .i64 qq.size)).setCell ⟨w1.heap.size, 4, none⟩ (Value.int .i64 qq.slide)).setCell ⟨w1.heap.size, 5, none⟩ (Value.int .i64 qq.delay)).setCell ⟨w1.heap.size, 6, none⟩ (Value.int .i64 qq.late))) := B7.out.trans (keptB_below KZ B7.out.size (fun k e => by omega))
    have G8 := hidE (qyO_G QZ)
    have BQ8 := hidE BZ
    have HC8 := hidE (chk_of_parse hpq)
    have PTL := two_parts (rowG_below HP.out B8.out) (rowG_below HM.out B8.out)
    have hz : ((((((((w7.setCell ⟨w1.heap.size, 0, none⟩ (Value.slice o1 pp.length d1)).setCell ⟨w1.heap.size, 1, none⟩ (Value.slice o2 qq.wh.length d2)).setCell ⟨w1.heap.size, 2, none⟩ (Value.slice o3 qq.bys.length d3)).setCell ⟨w1.heap.size, 3, none⟩ (Value.int .i64 qq.size)).setCell ⟨w1.heap.size, 4, none⟩ (Value.int .i64 qq.slide)).setCell ⟨w1.heap.size, 5, none⟩ (Value.int .i64 qq.delay)).setCell ⟨w1.heap.size, 6, none⟩ (Value.int .i64 qq.late))).heap.size = w7.heap.size := by simp
    rw [hz] at PTL
    have LT := hidE (light_any _ _ [part, more] _ PTL (by show 2 ≤ maxLen; decide))
    have B8a := hidE (B8.out.alloc B8.out.size (.cells #[.slice ap part.length cp, .slice am more.length cm] 50))
    have G8 := hidE (qyG_below G8.out (below_alloc (((((((w7.setCell ⟨w1.heap.size, 0, none⟩ (Value.slice o1 pp.length d1)).setCell ⟨w1.heap.size, 1, none⟩ (Value.slice o2 qq.wh.length d2)).setCell ⟨w1.heap.size, 2, none⟩ (Value.slice o3 qq.bys.length d3)).setCell ⟨w1.heap.size, 3, none⟩ (Value.int .i64 qq.size)).setCell ⟨w1.heap.size, 4, none⟩ (Value.int .i64 qq.slide)).setCell ⟨w1.heap.size, 5, none⟩ (Value.int .i64 qq.delay)).setCell ⟨w1.heap.size, 6, none⟩ (Value.int .i64 qq.late)) (.cells #[.slice ap part.length cp, .slice am more.length cm] 50)))
    have BQ8 := hidE (blk_below BQ8.out (below_alloc (((((((w7.setCell ⟨w1.heap.size, 0, none⟩ (Value.slice o1 pp.length d1)).setCell ⟨w1.heap.size, 1, none⟩ (Value.slice o2 qq.wh.length d2)).setCell ⟨w1.heap.size, 2, none⟩ (Value.slice o3 qq.bys.length d3)).setCell ⟨w1.heap.size, 3, none⟩ (Value.int .i64 qq.size)).setCell ⟨w1.heap.size, 4, none⟩ (Value.int .i64 qq.slide)).setCell ⟨w1.heap.size, 5, none⟩ (Value.int .i64 qq.delay)).setCell ⟨w1.heap.size, 6, none⟩ (Value.int .i64 qq.late)) (.cells #[.slice ap part.length cp, .slice am more.length cm] 50)) BQ8.out.lt)
    clear KZ BZ QZ hqo hqg hpq BQ7 B7 hb PTL hz
    unfold qyV
    go_wp2_with fail
    generalize ((((((((w7.setCell ⟨w1.heap.size, 0, none⟩ (Value.slice o1 pp.length d1)).setCell ⟨w1.heap.size, 1, none⟩ (Value.slice o2 qq.wh.length d2)).setCell ⟨w1.heap.size, 2, none⟩ (Value.slice o3 qq.bys.length d3)).setCell ⟨w1.heap.size, 3, none⟩ (Value.int .i64 qq.size)).setCell ⟨w1.heap.size, 4, none⟩ (Value.int .i64 qq.slide)).setCell ⟨w1.heap.size, 5, none⟩ (Value.int .i64 qq.delay)).setCell ⟨w1.heap.size, 6, none⟩ (Value.int .i64 qq.late)).alloc (.cells #[.slice ap part.length cp, .slice am more.length cm] 50)) = w8 at *
    refine LT.out.mono ?_
    rintro e w9 ⟨rfl, hb⟩
    have B9 := nxt B8a hb
    have G9 := hidE (qyG_below G8.out hb)
    have BQ9 := hidE (blk_below BQ8.out hb BQ8.out.lt)
    clear LT B8 B8a G8 BQ8 hb q0 q1 q2 q3 q4 q5 q6 f0 f1 f2 f3 f4 f5 f6 lq
    cases hlm : lightM [part, more] with
    | false =>
      go_wp2_with fail
      go_ret
      exact ⟨rfl, B9.out⟩
    | true =>
      obtain ⟨-, h40⟩ := lightM_ok hlm
      obtain ⟨hp40, hpc⟩ := h40 part (by simp)
      obtain ⟨hm40, hmc⟩ := h40 more (by simp)
      have HPC := hidE hpc
      have HP2 := hidE (rowG_below HP.out B9.out)
      have HM2 := hidE (rowG_below HM.out B9.out)
      have PB : Hid (∀ m, -1 ≤ farL (-1) (part.take m) ∧ farL (-1) (part.take m) ≤ 9999) := fun m => by
        have := farL_bound (part.take m) (-1) (fun x hx => HPC.out x (List.mem_of_mem_take hx))
        omega
      clear hlm h40 hpc hmc HP HM
      go_wp2_with fail
      go_loopw [12, 13] (fun f i wr => ∃ (m : Nat), m ≤ part.length ∧ f = .int .i64 (farL (-1) (part.take m)) ∧ i = .int .i64 m ∧ Hid (Below w9.heap.size w9 wr)) (fun _ i _ => part.length - (intOf i).toNat)
      case atStart => exact ⟨0, Nat.zero_le _, rfl, rfl, Below.refl _ _⟩
      case round =>
        obtain ⟨m, hm, rfl, rfl, HB⟩ := hrel
        by_cases hlt : m < part.length
        · obtain ⟨ge, oe, hae, hce, p1, p2, p3⟩ := rowOf_val cellsE_len (rowG_below HP2.out HB.out) m hlt
          subst hae
          have hfs := farL_take hlt (-1)
          have hb1 := PB.out m
          have hb2 := PB.out (m + 1)
          have hx := (ev_ok (HPC.out part[m] (List.getElem_mem hlt))).2
          generalize farL (-1) (part.take m) = F at *
          generalize part[m] = x at *
          obtain ⟨x0, x1, x2, x3, x4, x5, x6⟩ := ev7 hce
          unfold maxLen at p2
          clear hce x1 x2 x3 x4 x5 x6
          go_wp2_with fail
          go_roundw
          case rel => exact ⟨m + 1, by omega, by rw [hfs], by go_num, HB⟩
          case measure => simp [intOf]; omega
        · have hme : m = part.length := by omega
          subst hme
          rw [List.take_length]
          have hfb := PB.out part.length
          rw [List.take_length] at hfb
          obtain ⟨i0, hi, hz0, hz1, hz2⟩ := info_parts infoEv7
          have HE1 := hidE (evs_one part)
          have HE2 := hidE (evs_one more)
          have Br := nxt B9 HB.out
          have Gr := hidE (qyG_below G9.out HB.out)
          have BQr := hidE (blk_below BQ9.out HB.out BQ9.out.lt)
          have HPr := hidE (rowG_below HP2.out HB.out)
          have HMr := hidE (rowG_below HM2.out HB.out)
          clear B9 G9 BQ9 HP2 HM2 HB PB
          obtain ⟨far, hfar⟩ : ∃ far, farL (-1) part = far := ⟨_, rfl⟩
          have HFAR := hidE hfar
          rw [hfar]
          rw [hfar] at hfb
          clear hfar
          go_wp2_with (at_builtin; go_must (refine wpList_append_row _ rfl (.const (.slice none 0 0)) (.tmp 61) 50 rfl wr.heap.size 49 i0 (.agg #[.int .i64 0, .int .i64 0, .int .i64 0, .int .i64 0, .int .i64 0, .int .i64 0, .int .i64 0]) 7 56 Tryz.underlying50 hi hz0 hz1 hz2 rfl (by decide) (.slice none 0 0) 0 [] rfl (World.ownsRow_nil _ _ _ _) _ part.length (rowOf cellsE part) rfl HPr.out HP9.out HE1.out (by show _ ≤ 2 ^ 63 - 1; omega) (by omega) (Nat.le_refl _) ?_))
          intro v1 wa ho1 hg1
          have ho1' : wa.ownsRow wr.heap.size 49 7 v1 part.length (rowOf cellsE part) := by simpa using ho1
          obtain ⟨av, cv, rfl⟩ := owns_shapeE ho1'
          have HO1 := hidE ho1'
          have HBa : Hid (Below wr.heap.size wr wa) := (Below.refl wr.heap.size wr).grown hg1 (Nat.le_refl _) (fun k hk => by simp [Value.ownBlock] at hk)
          have HMa := hidE (rowG_below HMr.out HBa.out)
          have hsa := HBa.out.size
          clear ho1 ho1' hg1
          go_wp2_with (at_builtin; go_must (refine wpList_append_row _ rfl (.tmp 62) (.tmp 63) 50 rfl wr.heap.size 49 i0 (.agg #[.int .i64 0, .int .i64 0, .int .i64 0, .int .i64 0, .int .i64 0, .int .i64 0, .int .i64 0]) 7 56 Tryz.underlying50 hi hz0 hz1 hz2 rfl (by decide) _ _ _ rfl HO1.out _ more.length (rowOf cellsE more) rfl HMa.out HM9.out HE2.out (by show _ ≤ 2 ^ 63 - 1; omega) (by omega) hsa ?_))
          intro v2 wb ho2 hg2
          have ho2' : RowG wb v2 7 (part ++ more).length (rowOf cellsE (part ++ more)) := by rw [rowOf_app, List.length_append]; exact rowG_of_owns ho2
          have HO2 := hidE ho2'
          have HBb : Hid (Below wr.heap.size wr wb) := HBa.out.grown hg2 hsa (fun k hk => (HO1.out.lt k hk).1)
          obtain ⟨a9, c9, rfl⟩ := rowG_shape (rowG_of_owns ho2)
          have Bb := nxt Br HBb.out
          have Gb := hidE (qyG_below Gr.out HBb.out)
          have BQb := hidE (blk_below BQr.out HBb.out BQr.out.lt)
          have HPb := hidE (rowG_below HPr.out HBb.out)
          clear ho2 ho2' hg2 HO1 HBa HMa HBb Gr BQr HPr HMr Br hsa
          have ba1 := below_alloc wb (.cells #[.slice ap part.length cp] 50)
          have A2 := hidE (answer_any _ _ _ _ qq pp _ [part] _ (qyG_below Gb.out ba1) HC8.out (one_part HPb.out) (by simp) (fun l hl => by rw [List.mem_singleton.1 hl]; exact hp40))
          have BQc := hidE (blk_below BQb.out ba1 BQb.out.lt)
          have q0 : wb.cell? ⟨w1.heap.size, 0, none⟩ = some (Value.slice o1 pp.length d1) := BQb.out.c 0 (by simp)
          have q1 : wb.cell? ⟨w1.heap.size, 1, none⟩ = some (Value.slice o2 qq.wh.length d2) := BQb.out.c 1 (by simp)
          have q2 : wb.cell? ⟨w1.heap.size, 2, none⟩ = some (Value.slice o3 qq.bys.length d3) := BQb.out.c 2 (by simp)
          have q3 : wb.cell? ⟨w1.heap.size, 3, none⟩ = some (Value.int .i64 qq.size) := BQb.out.c 3 (by simp)
          have q4 : wb.cell? ⟨w1.heap.size, 4, none⟩ = some (Value.int .i64 qq.slide) := BQb.out.c 4 (by simp)
          have q5 : wb.cell? ⟨w1.heap.size, 5, none⟩ = some (Value.int .i64 qq.delay) := BQb.out.c 5 (by simp)
          have q6 : wb.cell? ⟨w1.heap.size, 6, none⟩ = some (Value.int .i64 qq.late) := BQb.out.c 6 (by simp)
          have lq := BQb.out.lt
          have Bc := hidE (Bb.out.alloc Bb.out.size (.cells #[.slice ap part.length cp] 50))
          have Gc := hidE (qyG_below Gb.out ba1)
          have HO2 := hidE (rowG_below HO2.out ba1)
          unfold qyV at A2
          generalize allN qq [part] = n1 at *
          clear ba1 BQb Bb Gb HPb
          go_wp2_with fail
          generalize wb.alloc (.cells #[.slice ap part.length cp] 50) = wc at *
          refine A2.out.mono ?_
          rintro e wd ⟨u1, os1, tbl1, rfl, hp1, ho1, hot1, hb⟩
          obtain ⟨e1, g1, rfl⟩ := owns_shapeE hp1.row
          have HP1 := hidE hp1
          have HOO1 := hidE ho1
          have HOT1 := hidE hot1
          have Bd := nxt Bc hb
          have Gd := hidE (qyG_below Gc.out hb)
          have BQd := hidE (blk_below BQc.out hb BQc.out.lt)
          have HO3 := hidE (rowG_below HO2.out hb)
          clear hp1 ho1 hot1 hb A2 HO2 Bc Gc BQc q0 q1 q2 q3 q4 q5 q6 lq
          have ba1 := below_alloc wd (.cells #[.slice a9 (part.length + more.length) c9] 50)
          have A3 := hidE (answer_gen _ _ _ _ qq pp _ [part ++ more] _ (qyG_below Gd.out ba1) HC8.out (one_part HO3.out) (by simp) (by simp [evsN]; omega))
          have q0 : wd.cell? ⟨w1.heap.size, 0, none⟩ = some (Value.slice o1 pp.length d1) := BQd.out.c 0 (by simp)
          have q1 : wd.cell? ⟨w1.heap.size, 1, none⟩ = some (Value.slice o2 qq.wh.length d2) := BQd.out.c 1 (by simp)
          have q2 : wd.cell? ⟨w1.heap.size, 2, none⟩ = some (Value.slice o3 qq.bys.length d3) := BQd.out.c 2 (by simp)
          have q3 : wd.cell? ⟨w1.heap.size, 3, none⟩ = some (Value.int .i64 qq.size) := BQd.out.c 3 (by simp)
          have q4 : wd.cell? ⟨w1.heap.size, 4, none⟩ = some (Value.int .i64 qq.slide) := BQd.out.c 4 (by simp)
          have q5 : wd.cell? ⟨w1.heap.size, 5, none⟩ = some (Value.int .i64 qq.delay) := BQd.out.c 5 (by simp)
          have q6 : wd.cell? ⟨w1.heap.size, 6, none⟩ = some (Value.int .i64 qq.late) := BQd.out.c 6 (by simp)
          have lq := BQd.out.lt
          have Be := hidE (Bd.out.alloc Bd.out.size (.cells #[.slice a9 (part.length + more.length) c9] 50))
          have BQe := hidE (blk_below BQd.out ba1 BQd.out.lt)
          have HP1e := hidE (posR_below HP1.out ba1)
          unfold qyV at A3
          generalize allN qq [part ++ more] = n2 at *
          clear ba1 BQd Bd Gd HO3 HP1
          go_wp2_with fail
          generalize wd.alloc (.cells #[.slice a9 (part.length + more.length) c9] 50) = we at *
          refine A3.out.mono ?_
          rintro e wf ⟨u2, os2, tbl2, rfl, hp2, ho2, hot2, hb⟩
          obtain ⟨e2, g2, rfl⟩ := owns_shapeE hp2.row
          have HP2 := hidE hp2
          have HOO2 := hidE ho2
          have HOT2 := hidE hot2
          have Bf := nxt Be hb
          have BQf := hidE (blk_below BQe.out hb BQe.out.lt)
          have HP1f := hidE (posR_below HP1e.out hb)
          clear hp2 ho2 hot2 hb A3 HP1e Be BQe q0 q1 q2 q3 q4 q5 q6 lq
          have hqo := okQ_of HC8.out
          have hS9 := qyS_of HC8.out
          obtain ⟨z1, z2⟩ := hqo.s1
          obtain ⟨z3, z4⟩ := hqo.s3
          obtain ⟨z5, z6⟩ := hqo.s4
          have l1 : os1.length ≤ 1000 := by rw [os_len HOO1.out]; have := HOT1.out.few; have := allC_len80 hS9 (l := part) (by omega); omega
          have l2 : os2.length ≤ 1000 := by rw [os_len HOO2.out]; have := HOT2.out.few; have := allC_len80 hS9 (l := part ++ more) (by rw [List.length_append]; omega); omega
          have UP1 : Hid (∀ w', Below wf.heap.size wf w' → Calls Tryz.prog 15 #[.slice e1 os1.length g1, .int .i64 (qq.size + qq.late), .int .i64 (far - qq.delay)] w' fun e w'' => ∃ u', e = .returned u' ∧ w''.ownsRow w'.heap.size 74 4 u' (uptoO (qq.size + qq.late) (far - qq.delay) os1).length (rowOf cellsPo (uptoO (qq.size + qq.late) (far - qq.delay) os1)) ∧ Below w'.heap.size w' w'') := fun w' hb =>
            upto_any _ _ os1 _ w' (rowG_below (rowG_of_owns HP1f.out.row) hb) (fun o h => rowG_below (rowG_of_owns (HP1f.out.vs o h)) hb) l1 (os_in hS9 HOO1.out HOT1.out) (by omega)
          have UP2 : Hid (∀ w', Below wf.heap.size wf w' → Calls Tryz.prog 15 #[.slice e2 os2.length g2, .int .i64 (qq.size + qq.late), .int .i64 (far - qq.delay)] w' fun e w'' => ∃ u', e = .returned u' ∧ w''.ownsRow w'.heap.size 74 4 u' (uptoO (qq.size + qq.late) (far - qq.delay) os2).length (rowOf cellsPo (uptoO (qq.size + qq.late) (far - qq.delay) os2)) ∧ Below w'.heap.size w' w'') := fun w' hb =>
            upto_any _ _ os2 _ w' (rowG_below (rowG_of_owns HP2.out.row) hb) (fun o h => rowG_below (rowG_of_owns (HP2.out.vs o h)) hb) l2 (os_in hS9 HOO2.out HOT2.out) (by omega)
          have SP : Hid (0 ≤ far → ∀ u1 u2 w', Below wf.heap.size wf w' → RowG w' u1 4 (uptoO (qq.size + qq.late) (far - qq.delay) os1).length (rowOf cellsPo (uptoO (qq.size + qq.late) (far - qq.delay) os1)) → RowG w' u2 4 (uptoO (qq.size + qq.late) (far - qq.delay) os2).length (rowOf cellsPo (uptoO (qq.size + qq.late) (far - qq.delay) os2)) →
              Calls Tryz.prog 12 #[u1, u2] w' fun e w'' => e = .returned (.bool true) ∧ Below w'.heap.size w' w'') := fun hf0 u1 u2 w' hb h1 h2 =>
            samePanes_eq _ _ u1 u2 w' h1 (fun o h => rowG_below (rowG_of_owns (HP1f.out.vs o (List.mem_filter.1 h).1)) hb) h2 (fun o h => rowG_below (rowG_of_owns (HP2.out.vs o (List.mem_filter.1 h).1)) hb)
              (by have := uptoO_len (qq.size + qq.late) (far - qq.delay) os1; omega) (fun o h => os_few HOO1.out HOT1.out hqo.n4 o (List.mem_filter.1 h).1)
              (by rw [uptoO_map, uptoO_map, HOO1.out, HOO2.out, ← HFAR.out]; exact keep_same HPC.out (by rw [HFAR.out]; exact hf0) HOT1.out HOT2.out)
          have HW1 := hidE (wrapIn2 (qq.size + qq.late) (by omega) (by omega))
          have HW2 := hidE (wrapIn2 (far - qq.delay) (by omega) (by omega))
          have BQd := BQf
          clear HPC HOO1 HOO2 HOT1 HOT2 HP1f HP2 HFAR HE1 HE2 hS9 hqo l1 l2
          go_wp2_with fail
          refine wp_region_held (S := fun w' => Below wf.heap.size wf w') (by kernel_rfl) ?_
          have hS : Below wf.heap.size wf ({ wf with drawn := wf.drawn + 1 } : World) := (Below.refl _ _).drew
          generalize ({ wf with drawn := wf.drawn + 1 } : World) = wz at *
          by_cases hf0 : far < 0
          · have d0 : decide (far < 0) = true := decide_eq_true hf0
            refine held_take (i := 0) (v := .int .i64 far) (L := #[true, false, false, false, false, false, false, false, false, false, false, false, false, false, false, false, false, false, false, false, false, false, false, false, false, false, false, false]) rfl (by kernel_rfl) (by kernel_rfl) (by kernel_rfl) (fun c a w h => h) (Or.inl ⟨by kernel_rfl, fun wq hq => by go_simp⟩) hS (by kernel_rfl) ?_
            refine held_take (i := 1) (v := .bool true) (L := #[true, true, false, false, false, false, false, false, false, false, false, false, false, false, false, false, false, false, false, false, false, false, false, false, false, false, false, false]) rfl (by kernel_rfl) (by kernel_rfl) (by kernel_rfl) (fun c a w h => h) (Or.inl ⟨by kernel_rfl, fun wq hq => by go_simp⟩) hS (by kernel_rfl) ?_
            refine held_take (i := 2) (v := .bool true) (L := #[true, true, true, false, false, false, false, false, false, false, false, false, false, false, false, false, false, false, false, false, false, false, false, false, false, false, false, false]) rfl (by kernel_rfl) (by kernel_rfl) (by kernel_rfl) (fun c a w h => h) (Or.inl ⟨by kernel_rfl, fun wq hq => by go_simp⟩) hS (by kernel_rfl) ?_
            refine held_take (i := 3) (v := undef) (L := #[true, true, true, true, false, false, false, false, false, false, false, false, false, false, false, false, false, false, false, false, false, false, false, false, false, false, false, false]) rfl (by kernel_rfl) (by kernel_rfl) (by kernel_rfl) (fun c a w h => h) (Or.inr ⟨by kernel_rfl, rfl⟩) hS (by kernel_rfl) ?_
            refine held_take (i := 4) (v := undef) (L := #[true, true, true, true, true, false, false, false, false, false, false, false, false, false, false, false, false, false, false, false, false, false, false, false, false, false, false, false]) rfl (by kernel_rfl) (by kernel_rfl) (by kernel_rfl) (fun c a w h => h) (Or.inr ⟨by kernel_rfl, rfl⟩) hS (by kernel_rfl) ?_
            refine held_take (i := 5) (v := undef) (L := #[true, true, true, true, true, true, false, false, false, false, false, false, false, false, false, false, false, false, false, false, false, false, false, false, false, false, false, false]) rfl (by kernel_rfl) (by kernel_rfl) (by kernel_rfl) (fun c a w h => h) (Or.inr ⟨by kernel_rfl, rfl⟩) hS (by kernel_rfl) ?_
            refine held_take (i := 6) (v := undef) (L := #[true, true, true, true, true, true, true, false, false, false, false, false, false, false, false, false, false, false, false, false, false, false, false, false, false, false, false, false]) rfl (by kernel_rfl) (by kernel_rfl) (by kernel_rfl) (fun c a w h => h) (Or.inr ⟨by kernel_rfl, rfl⟩) hS (by kernel_rfl) ?_
            refine held_take (i := 7) (v := undef) (L := #[true, true, true, true, true, true, true, true, false, false, false, false, false, false, false, false, false, false, false, false, false, false, false, false, false, false, false, false]) rfl (by kernel_rfl) (by kernel_rfl) (by kernel_rfl) (fun c a w h => h) (Or.inr ⟨by kernel_rfl, rfl⟩) hS (by kernel_rfl) ?_
            refine held_take (i := 8) (v := undef) (L := #[true, true, true, true, true, true, true, true, true, false, false, false, false, false, false, false, false, false, false, false, false, false, false, false, false, false, false, false]) rfl (by kernel_rfl) (by kernel_rfl) (by kernel_rfl) (fun c a w h => h) (Or.inr ⟨by kernel_rfl, rfl⟩) hS (by kernel_rfl) ?_
            refine held_take (i := 9) (v := undef) (L := #[true, true, true, true, true, true, true, true, true, true, false, false, false, false, false, false, false, false, false, false, false, false, false, false, false, false, false, false]) rfl (by kernel_rfl) (by kernel_rfl) (by kernel_rfl) (fun c a w h => h) (Or.inr ⟨by kernel_rfl, rfl⟩) hS (by kernel_rfl) ?_
            refine held_take (i := 10) (v := undef) (L := #[true, true, true, true, true, true, true, true, true, true, true, false, false, false, false, false, false, false, false, false, false, false, false, false, false, false, false, false]) rfl (by kernel_rfl) (by kernel_rfl) (by kernel_rfl) (fun c a w h => h) (Or.inr ⟨by kernel_rfl, rfl⟩) hS (by kernel_rfl) ?_
            refine held_take (i := 11) (v := undef) (L := #[true, true, true, true, true, true, true, true, true, true, true, true, false, false, false, false, false, false, false, false, false, false, false, false, false, false, false, false]) rfl (by kernel_rfl) (by kernel_rfl) (by kernel_rfl) (fun c a w h => h) (Or.inr ⟨by kernel_rfl, rfl⟩) hS (by kernel_rfl) ?_
            refine held_take (i := 12) (v := undef) (L := #[true, true, true, true, true, true, true, true, true, true, true, true, true, false, false, false, false, false, false, false, false, false, false, false, false, false, false, false]) rfl (by kernel_rfl) (by kernel_rfl) (by kernel_rfl) (fun c a w h => h) (Or.inr ⟨by kernel_rfl, rfl⟩) hS (by kernel_rfl) ?_
            refine held_take (i := 13) (v := undef) (L := #[true, true, true, true, true, true, true, true, true, true, true, true, true, true, false, false, false, false, false, false, false, false, false, false, false, false, false, false]) rfl (by kernel_rfl) (by kernel_rfl) (by kernel_rfl) (fun c a w h => h) (Or.inr ⟨by kernel_rfl, rfl⟩) hS (by kernel_rfl) ?_
            refine held_take (i := 14) (v := undef) (L := #[true, true, true, true, true, true, true, true, true, true, true, true, true, true, true, false, false, false, false, false, false, false, false, false, false, false, false, false]) rfl (by kernel_rfl) (by kernel_rfl) (by kernel_rfl) (fun c a w h => h) (Or.inr ⟨by kernel_rfl, rfl⟩) hS (by kernel_rfl) ?_
            refine held_take (i := 15) (v := undef) (L := #[true, true, true, true, true, true, true, true, true, true, true, true, true, true, true, true, false, false, false, false, false, false, false, false, false, false, false, false]) rfl (by kernel_rfl) (by kernel_rfl) (by kernel_rfl) (fun c a w h => h) (Or.inr ⟨by kernel_rfl, rfl⟩) hS (by kernel_rfl) ?_
            refine held_take (i := 16) (v := undef) (L := #[true, true, true, true, true, true, true, true, true, true, true, true, true, true, true, true, true, false, false, false, false, false, false, false, false, false, false, false]) rfl (by kernel_rfl) (by kernel_rfl) (by kernel_rfl) (fun c a w h => h) (Or.inr ⟨by kernel_rfl, rfl⟩) hS (by kernel_rfl) ?_
            refine held_take (i := 17) (v := undef) (L := #[true, true, true, true, true, true, true, true, true, true, true, true, true, true, true, true, true, true, false, false, false, false, false, false, false, false, false, false]) rfl (by kernel_rfl) (by kernel_rfl) (by kernel_rfl) (fun c a w h => h) (Or.inr ⟨by kernel_rfl, rfl⟩) hS (by kernel_rfl) ?_
            refine held_take (i := 18) (v := undef) (L := #[true, true, true, true, true, true, true, true, true, true, true, true, true, true, true, true, true, true, true, false, false, false, false, false, false, false, false, false]) rfl (by kernel_rfl) (by kernel_rfl) (by kernel_rfl) (fun c a w h => h) (Or.inr ⟨by kernel_rfl, rfl⟩) hS (by kernel_rfl) ?_
            refine held_take (i := 19) (v := undef) (L := #[true, true, true, true, true, true, true, true, true, true, true, true, true, true, true, true, true, true, true, true, false, false, false, false, false, false, false, false]) rfl (by kernel_rfl) (by kernel_rfl) (by kernel_rfl) (fun c a w h => h) (Or.inr ⟨by kernel_rfl, rfl⟩) hS (by kernel_rfl) ?_
            refine held_take (i := 20) (v := undef) (L := #[true, true, true, true, true, true, true, true, true, true, true, true, true, true, true, true, true, true, true, true, true, false, false, false, false, false, false, false]) rfl (by kernel_rfl) (by kernel_rfl) (by kernel_rfl) (fun c a w h => h) (Or.inr ⟨by kernel_rfl, rfl⟩) hS (by kernel_rfl) ?_
            refine held_take (i := 21) (v := undef) (L := #[true, true, true, true, true, true, true, true, true, true, true, true, true, true, true, true, true, true, true, true, true, true, false, false, false, false, false, false]) rfl (by kernel_rfl) (by kernel_rfl) (by kernel_rfl) (fun c a w h => h) (Or.inr ⟨by kernel_rfl, rfl⟩) hS (by kernel_rfl) ?_
            refine held_take (i := 22) (v := undef) (L := #[true, true, true, true, true, true, true, true, true, true, true, true, true, true, true, true, true, true, true, true, true, true, true, false, false, false, false, false]) rfl (by kernel_rfl) (by kernel_rfl) (by kernel_rfl) (fun c a w h => h) (Or.inr ⟨by kernel_rfl, rfl⟩) hS (by kernel_rfl) ?_
            refine held_take (i := 23) (v := undef) (L := #[true, true, true, true, true, true, true, true, true, true, true, true, true, true, true, true, true, true, true, true, true, true, true, true, false, false, false, false]) rfl (by kernel_rfl) (by kernel_rfl) (by kernel_rfl) (fun c a w h => h) (Or.inr ⟨by kernel_rfl, rfl⟩) hS (by kernel_rfl) ?_
            refine held_take (i := 24) (v := undef) (L := #[true, true, true, true, true, true, true, true, true, true, true, true, true, true, true, true, true, true, true, true, true, true, true, true, true, false, false, false]) rfl (by kernel_rfl) (by kernel_rfl) (by kernel_rfl) (fun c a w h => h) (Or.inr ⟨by kernel_rfl, rfl⟩) hS (by kernel_rfl) ?_
            refine held_take (i := 25) (v := undef) (L := #[true, true, true, true, true, true, true, true, true, true, true, true, true, true, true, true, true, true, true, true, true, true, true, true, true, true, false, false]) rfl (by kernel_rfl) (by kernel_rfl) (by kernel_rfl) (fun c a w h => h) (Or.inr ⟨by kernel_rfl, rfl⟩) hS (by kernel_rfl) ?_
            refine held_take (i := 26) (v := .bool true) (L := #[true, true, true, true, true, true, true, true, true, true, true, true, true, true, true, true, true, true, true, true, true, true, true, true, true, true, true, false]) rfl (by kernel_rfl) (by kernel_rfl) (by kernel_rfl) (fun c a w h => h) (Or.inl ⟨by kernel_rfl, fun wq hq => by go_simp⟩) hS (by kernel_rfl) ?_
            refine held_go (i := 27) (L := #[true, true, true, true, true, true, true, true, true, true, true, true, true, true, true, true, true, true, true, true, true, true, true, true, true, true, true, true]) (by kernel_rfl) rfl (by kernel_rfl) (by kernel_rfl) ?_
            intro K' hK
            go_simp
            refine hK _ _ ⟨hS, ?_⟩
            clear hK
            refine wpAnyH_done (by kernel_rfl) ?_ _
            have HR9 := nxt Bf hS
            clear hS UP1 UP2 SP
            go_wp2_with fail
            go_ret
            exact ⟨rfl, HR9.out⟩
          · have d0 : decide (far < 0) = false := decide_eq_false hf0
            have SP := hidE (SP.out (by omega))
            refine held_take (i := 0) (v := .int .i64 far) (L := #[true, false, false, false, false, false, false, false, false, false, false, false, false, false, false, false, false, false, false, false, false, false, false, false, false, false, false, false]) rfl (by kernel_rfl) (by kernel_rfl) (by kernel_rfl) (fun c a w h => h) (Or.inl ⟨by kernel_rfl, fun wq hq => by go_simp⟩) hS (by kernel_rfl) ?_
            refine held_take (i := 1) (v := .bool false) (L := #[true, true, false, false, false, false, false, false, false, false, false, false, false, false, false, false, false, false, false, false, false, false, false, false, false, false, false, false]) rfl (by kernel_rfl) (by kernel_rfl) (by kernel_rfl) (fun c a w h => h) (Or.inl ⟨by kernel_rfl, fun wq hq => by go_simp⟩) hS (by kernel_rfl) ?_
            refine held_take (i := 2) (v := .bool false) (L := #[true, true, true, false, false, false, false, false, false, false, false, false, false, false, false, false, false, false, false, false, false, false, false, false, false, false, false, false]) rfl (by kernel_rfl) (by kernel_rfl) (by kernel_rfl) (fun c a w h => h) (Or.inl ⟨by kernel_rfl, fun wq hq => by go_simp⟩) hS (by kernel_rfl) ?_
            refine held_take (i := 3) (v := .slice e1 os1.length g1) (L := #[true, true, true, true, false, false, false, false, false, false, false, false, false, false, false, false, false, false, false, false, false, false, false, false, false, false, false, false]) rfl (by kernel_rfl) (by kernel_rfl) (by kernel_rfl) (fun c a w h => h) (Or.inl ⟨by kernel_rfl, fun wq hq => by go_simp⟩) hS (by kernel_rfl) ?_
            refine held_take (i := 4) (v := .pointer (some ⟨w1.heap.size, 3, none⟩)) (L := #[true, true, true, true, true, false, false, false, false, false, false, false, false, false, false, false, false, false, false, false, false, false, false, false, false, false, false, false]) rfl (by kernel_rfl) (by kernel_rfl) (by kernel_rfl) (fun c a w h => h) (Or.inl ⟨by kernel_rfl, fun wq hq => by go_simp⟩) hS (by kernel_rfl) ?_
            refine held_take (i := 5) (v := .int .i64 qq.size) (L := #[true, true, true, true, true, true, false, false, false, false, false, false, false, false, false, false, false, false, false, false, false, false, false, false, false, false, false, false]) rfl (by kernel_rfl) (by kernel_rfl) (by kernel_rfl) (fun c a w h => h) (Or.inl ⟨by kernel_rfl, fun wq hq => by have K := blk_below BQd.out hq BQd.out.lt; have q0 : wq.cell? ⟨_, 0, none⟩ = some (Value.slice o1 pp.length d1) := K.c 0 (by simp); have q1 : wq.cell? ⟨_, 1, none⟩ = some (Value.slice o2 qq.wh.length d2) := K.c 1 (by simp); have q2 : wq.cell? ⟨_, 2, none⟩ = some (Value.slice o3 qq.bys.length d3) := K.c 2 (by simp); have q3 : wq.cell? ⟨_, 3, none⟩ = some (Value.int .i64 qq.size) := K.c 3 (by simp); have q4 : wq.cell? ⟨_, 4, none⟩ = some (Value.int .i64 qq.slide) := K.c 4 (by simp); have q5 : wq.cell? ⟨_, 5, none⟩ = some (Value.int .i64 qq.delay) := K.c 5 (by simp); have q6 : wq.cell? ⟨_, 6, none⟩ = some (Value.int .i64 qq.late) := K.c 6 (by simp); clear K; go_simp⟩) hS (by kernel_rfl) ?_
            refine held_take (i := 6) (v := .pointer (some ⟨w1.heap.size, 6, none⟩)) (L := #[true, true, true, true, true, true, true, false, false, false, false, false, false, false, false, false, false, false, false, false, false, false, false, false, false, false, false, false]) rfl (by kernel_rfl) (by kernel_rfl) (by kernel_rfl) (fun c a w h => h) (Or.inl ⟨by kernel_rfl, fun wq hq => by go_simp⟩) hS (by kernel_rfl) ?_
            refine held_take (i := 7) (v := .int .i64 qq.late) (L := #[true, true, true, true, true, true, true, true, false, false, false, false, false, false, false, false, false, false, false, false, false, false, false, false, false, false, false, false]) rfl (by kernel_rfl) (by kernel_rfl) (by kernel_rfl) (fun c a w h => h) (Or.inl ⟨by kernel_rfl, fun wq hq => by have K := blk_below BQd.out hq BQd.out.lt; have q0 : wq.cell? ⟨_, 0, none⟩ = some (Value.slice o1 pp.length d1) := K.c 0 (by simp); have q1 : wq.cell? ⟨_, 1, none⟩ = some (Value.slice o2 qq.wh.length d2) := K.c 1 (by simp); have q2 : wq.cell? ⟨_, 2, none⟩ = some (Value.slice o3 qq.bys.length d3) := K.c 2 (by simp); have q3 : wq.cell? ⟨_, 3, none⟩ = some (Value.int .i64 qq.size) := K.c 3 (by simp); have q4 : wq.cell? ⟨_, 4, none⟩ = some (Value.int .i64 qq.slide) := K.c 4 (by simp); have q5 : wq.cell? ⟨_, 5, none⟩ = some (Value.int .i64 qq.delay) := K.c 5 (by simp); have q6 : wq.cell? ⟨_, 6, none⟩ = some (Value.int .i64 qq.late) := K.c 6 (by simp); clear K; go_simp⟩) hS (by kernel_rfl) ?_
            refine held_take (i := 8) (v := .int .i64 (qq.size + qq.late)) (L := #[true, true, true, true, true, true, true, true, true, false, false, false, false, false, false, false, false, false, false, false, false, false, false, false, false, false, false, false]) rfl (by kernel_rfl) (by kernel_rfl) (by kernel_rfl) (fun c a w h => h) (Or.inl ⟨by kernel_rfl, fun wq hq => by have hw := HW1.out; go_simp⟩) hS (by kernel_rfl) ?_
            refine held_take (i := 9) (v := .int .i64 far) (L := #[true, true, true, true, true, true, true, true, true, true, false, false, false, false, false, false, false, false, false, false, false, false, false, false, false, false, false, false]) rfl (by kernel_rfl) (by kernel_rfl) (by kernel_rfl) (fun c a w h => h) (Or.inl ⟨by kernel_rfl, fun wq hq => by go_simp⟩) hS (by kernel_rfl) ?_
            refine held_take (i := 10) (v := .pointer (some ⟨w1.heap.size, 5, none⟩)) (L := #[true, true, true, true, true, true, true, true, true, true, true, false, false, false, false, false, false, false, false, false, false, false, false, false, false, false, false, false]) rfl (by kernel_rfl) (by kernel_rfl) (by kernel_rfl) (fun c a w h => h) (Or.inl ⟨by kernel_rfl, fun wq hq => by go_simp⟩) hS (by kernel_rfl) ?_
            refine held_take (i := 11) (v := .int .i64 qq.delay) (L := #[true, true, true, true, true, true, true, true, true, true, true, true, false, false, false, false, false, false, false, false, false, false, false, false, false, false, false, false]) rfl (by kernel_rfl) (by kernel_rfl) (by kernel_rfl) (fun c a w h => h) (Or.inl ⟨by kernel_rfl, fun wq hq => by have K := blk_below BQd.out hq BQd.out.lt; have q0 : wq.cell? ⟨_, 0, none⟩ = some (Value.slice o1 pp.length d1) := K.c 0 (by simp); have q1 : wq.cell? ⟨_, 1, none⟩ = some (Value.slice o2 qq.wh.length d2) := K.c 1 (by simp); have q2 : wq.cell? ⟨_, 2, none⟩ = some (Value.slice o3 qq.bys.length d3) := K.c 2 (by simp); have q3 : wq.cell? ⟨_, 3, none⟩ = some (Value.int .i64 qq.size) := K.c 3 (by simp); have q4 : wq.cell? ⟨_, 4, none⟩ = some (Value.int .i64 qq.slide) := K.c 4 (by simp); have q5 : wq.cell? ⟨_, 5, none⟩ = some (Value.int .i64 qq.delay) := K.c 5 (by simp); have q6 : wq.cell? ⟨_, 6, none⟩ = some (Value.int .i64 qq.late) := K.c 6 (by simp); clear K; go_simp⟩) hS (by kernel_rfl) ?_
            refine held_take (i := 12) (v := .int .i64 (far - qq.delay)) (L := #[true, true, true, true, true, true, true, true, true, true, true, true, true, false, false, false, false, false, false, false, false, false, false, false, false, false, false, false]) rfl (by kernel_rfl) (by kernel_rfl) (by kernel_rfl) (fun c a w h => h) (Or.inl ⟨by kernel_rfl, fun wq hq => by have hw := HW2.out; go_simp⟩) hS (by kernel_rfl) ?_
            refine held_take (i := 14) (v := .slice e2 os2.length g2) (L := #[true, true, true, true, true, true, true, true, true, true, true, true, true, false, true, false, false, false, false, false, false, false, false, false, false, false, false, false]) rfl (by kernel_rfl) (by kernel_rfl) (by kernel_rfl) (fun c a w h => h) (Or.inl ⟨by kernel_rfl, fun wq hq => by go_simp⟩) hS (by kernel_rfl) ?_
            refine held_take (i := 15) (v := .pointer (some ⟨w1.heap.size, 3, none⟩)) (L := #[true, true, true, true, true, true, true, true, true, true, true, true, true, false, true, true, false, false, false, false, false, false, false, false, false, false, false, false]) rfl (by kernel_rfl) (by kernel_rfl) (by kernel_rfl) (fun c a w h => h) (Or.inl ⟨by kernel_rfl, fun wq hq => by go_simp⟩) hS (by kernel_rfl) ?_
            refine held_take (i := 16) (v := .int .i64 qq.size) (L := #[true, true, true, true, true, true, true, true, true, true, true, true, true, false, true, true, true, false, false, false, false, false, false, false, false, false, false, false]) rfl (by kernel_rfl) (by kernel_rfl) (by kernel_rfl) (fun c a w h => h) (Or.inl ⟨by kernel_rfl, fun wq hq => by have K := blk_below BQd.out hq BQd.out.lt; have q0 : wq.cell? ⟨_, 0, none⟩ = some (Value.slice o1 pp.length d1) := K.c 0 (by simp); have q1 : wq.cell? ⟨_, 1, none⟩ = some (Value.slice o2 qq.wh.length d2) := K.c 1 (by simp); have q2 : wq.cell? ⟨_, 2, none⟩ = some (Value.slice o3 qq.bys.length d3) := K.c 2 (by simp); have q3 : wq.cell? ⟨_, 3, none⟩ = some (Value.int .i64 qq.size) := K.c 3 (by simp); have q4 : wq.cell? ⟨_, 4, none⟩ = some (Value.int .i64 qq.slide) := K.c 4 (by simp); have q5 : wq.cell? ⟨_, 5, none⟩ = some (Value.int .i64 qq.delay) := K.c 5 (by simp); have q6 : wq.cell? ⟨_, 6, none⟩ = some (Value.int .i64 qq.late) := K.c 6 (by simp); clear K; go_simp⟩) hS (by kernel_rfl) ?_
            refine held_take (i := 17) (v := .pointer (some ⟨w1.heap.size, 6, none⟩)) (L := #[true, true, true, true, true, true, true, true, true, true, true, true, true, false, true, true, true, true, false, false, false, false, false, false, false, false, false, false]) rfl (by kernel_rfl) (by kernel_rfl) (by kernel_rfl) (fun c a w h => h) (Or.inl ⟨by kernel_rfl, fun wq hq => by go_simp⟩) hS (by kernel_rfl) ?_
            refine held_take (i := 18) (v := .int .i64 qq.late) (L := #[true, true, true, true, true, true, true, true, true, true, true, true, true, false, true, true, true, true, true, false, false, false, false, false, false, false, false, false]) rfl (by kernel_rfl) (by kernel_rfl) (by kernel_rfl) (fun c a w h => h) (Or.inl ⟨by kernel_rfl, fun wq hq => by have K := blk_below BQd.out hq BQd.out.lt; have q0 : wq.cell? ⟨_, 0, none⟩ = some (Value.slice o1 pp.length d1) := K.c 0 (by simp); have q1 : wq.cell? ⟨_, 1, none⟩ = some (Value.slice o2 qq.wh.length d2) := K.c 1 (by simp); have q2 : wq.cell? ⟨_, 2, none⟩ = some (Value.slice o3 qq.bys.length d3) := K.c 2 (by simp); have q3 : wq.cell? ⟨_, 3, none⟩ = some (Value.int .i64 qq.size) := K.c 3 (by simp); have q4 : wq.cell? ⟨_, 4, none⟩ = some (Value.int .i64 qq.slide) := K.c 4 (by simp); have q5 : wq.cell? ⟨_, 5, none⟩ = some (Value.int .i64 qq.delay) := K.c 5 (by simp); have q6 : wq.cell? ⟨_, 6, none⟩ = some (Value.int .i64 qq.late) := K.c 6 (by simp); clear K; go_simp⟩) hS (by kernel_rfl) ?_
            refine held_take (i := 19) (v := .int .i64 (qq.size + qq.late)) (L := #[true, true, true, true, true, true, true, true, true, true, true, true, true, false, true, true, true, true, true, true, false, false, false, false, false, false, false, false]) rfl (by kernel_rfl) (by kernel_rfl) (by kernel_rfl) (fun c a w h => h) (Or.inl ⟨by kernel_rfl, fun wq hq => by have hw := HW1.out; go_simp⟩) hS (by kernel_rfl) ?_
            refine held_take (i := 20) (v := .int .i64 far) (L := #[true, true, true, true, true, true, true, true, true, true, true, true, true, false, true, true, true, true, true, true, true, false, false, false, false, false, false, false]) rfl (by kernel_rfl) (by kernel_rfl) (by kernel_rfl) (fun c a w h => h) (Or.inl ⟨by kernel_rfl, fun wq hq => by go_simp⟩) hS (by kernel_rfl) ?_
            refine held_take (i := 21) (v := .pointer (some ⟨w1.heap.size, 5, none⟩)) (L := #[true, true, true, true, true, true, true, true, true, true, true, true, true, false, true, true, true, true, true, true, true, true, false, false, false, false, false, false]) rfl (by kernel_rfl) (by kernel_rfl) (by kernel_rfl) (fun c a w h => h) (Or.inl ⟨by kernel_rfl, fun wq hq => by go_simp⟩) hS (by kernel_rfl) ?_
            refine held_take (i := 22) (v := .int .i64 qq.delay) (L := #[true, true, true, true, true, true, true, true, true, true, true, true, true, false, true, true, true, true, true, true, true, true, true, false, false, false, false, false]) rfl (by kernel_rfl) (by kernel_rfl) (by kernel_rfl) (fun c a w h => h) (Or.inl ⟨by kernel_rfl, fun wq hq => by have K := blk_below BQd.out hq BQd.out.lt; have q0 : wq.cell? ⟨_, 0, none⟩ = some (Value.slice o1 pp.length d1) := K.c 0 (by simp); have q1 : wq.cell? ⟨_, 1, none⟩ = some (Value.slice o2 qq.wh.length d2) := K.c 1 (by simp); have q2 : wq.cell? ⟨_, 2, none⟩ = some (Value.slice o3 qq.bys.length d3) := K.c 2 (by simp); have q3 : wq.cell? ⟨_, 3, none⟩ = some (Value.int .i64 qq.size) := K.c 3 (by simp); have q4 : wq.cell? ⟨_, 4, none⟩ = some (Value.int .i64 qq.slide) := K.c 4 (by simp); have q5 : wq.cell? ⟨_, 5, none⟩ = some (Value.int .i64 qq.delay) := K.c 5 (by simp); have q6 : wq.cell? ⟨_, 6, none⟩ = some (Value.int .i64 qq.late) := K.c 6 (by simp); clear K; go_simp⟩) hS (by kernel_rfl) ?_
            refine held_take (i := 23) (v := .int .i64 (far - qq.delay)) (L := #[true, true, true, true, true, true, true, true, true, true, true, true, true, false, true, true, true, true, true, true, true, true, true, true, false, false, false, false]) rfl (by kernel_rfl) (by kernel_rfl) (by kernel_rfl) (fun c a w h => h) (Or.inl ⟨by kernel_rfl, fun wq hq => by have hw := HW2.out; go_simp⟩) hS (by kernel_rfl) ?_
            refine held_go (i := 13) (L := #[true, true, true, true, true, true, true, true, true, true, true, true, true, true, true, true, true, true, true, true, true, true, true, true, false, false, false, false]) (by kernel_rfl) rfl (by kernel_rfl) (by kernel_rfl) ?_
            intro K' hK
            go_simp
            refine (UP1.out _ hS).mono ?_
            rintro e wu ⟨u8, rfl, ho8, hb8⟩
            have hS1 := hS.trans (hb8.mono hS.size)
            obtain ⟨x8, y8, rfl⟩ := owns_shapeE ho8
            have HU8 := hidE ho8
            refine hK _ _ ⟨hS1, ?_⟩
            clear hK ho8 hb8
            refine held_go (i := 24) (L := #[true, true, true, true, true, true, true, true, true, true, true, true, true, true, true, true, true, true, true, true, true, true, true, true, true, false, false, false]) (by kernel_rfl) rfl (by kernel_rfl) (by kernel_rfl) ?_
            intro K' hK
            go_simp
            refine (UP2.out _ hS1).mono ?_
            rintro e wv ⟨u9, rfl, ho9, hb9⟩
            have hS2 := hS1.trans (hb9.mono hS1.size)
            have HU8 := hidE (own_keep HU8.out hb9 (Nat.le_refl _))
            obtain ⟨x9, y9, rfl⟩ := owns_shapeE ho9
            have HU9 := hidE ho9
            refine hK _ _ ⟨hS2, ?_⟩
            clear hK ho9 hb9
            refine held_go (i := 25) (L := #[true, true, true, true, true, true, true, true, true, true, true, true, true, true, true, true, true, true, true, true, true, true, true, true, true, true, false, false]) (by kernel_rfl) rfl (by kernel_rfl) (by kernel_rfl) ?_
            intro K' hK
            go_simp
            refine (SP.out _ _ _ hS2 (rowG_of_owns HU8.out) (rowG_of_owns HU9.out)).mono ?_
            rintro e wy ⟨rfl, hb⟩
            have hS3 := hS2.trans (hb.mono hS2.size)
            refine hK _ _ ⟨hS3, ?_⟩
            clear hK hb
            refine held_take (i := 26) (v := .bool true) (L := #[true, true, true, true, true, true, true, true, true, true, true, true, true, true, true, true, true, true, true, true, true, true, true, true, true, true, true, false]) rfl (by kernel_rfl) (by kernel_rfl) (by kernel_rfl) (fun c a w h => h) (Or.inl ⟨by kernel_rfl, fun wq hq => by go_simp⟩) hS3 (by kernel_rfl) ?_
            refine held_go (i := 27) (L := #[true, true, true, true, true, true, true, true, true, true, true, true, true, true, true, true, true, true, true, true, true, true, true, true, true, true, true, true]) (by kernel_rfl) rfl (by kernel_rfl) (by kernel_rfl) ?_
            intro K' hK
            go_simp
            refine hK _ _ ⟨hS3, ?_⟩
            clear hK
            refine wpAnyH_done (by kernel_rfl) ?_ _
            have HR9 := nxt Bf hS3
            clear hS hS1 hS2 hS3 UP1 UP2 SP HU8 HU9
            go_wp2_with fail
            go_ret
            exact ⟨rfl, HR9.out⟩
end Go.Proofs.YtaomljdbndajgaaGreatDoor

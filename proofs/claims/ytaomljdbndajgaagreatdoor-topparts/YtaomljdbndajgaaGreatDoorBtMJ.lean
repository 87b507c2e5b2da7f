/- Several texts in one, each with its own head. What is proved: what the parts say. Conditions: theirs. -/
import Derived.Test.YtaomljdbndajgaaGreatDoorBtFJ
import Derived.Test.YtaomljdbndajgaaGreatDoorBtHJ
import Derived.Test.YtaomljdbndajgaaGreatDoorAsk
import Derived.Test.YtaomljdbndajgaaGreatDoorBaseJ
/- The law TopParts, over this seat's translation. Conditions: the library's tables and the fields' names lie. -/
namespace Go.Proofs.YtaomljdbndajgaaGreatDoor
open Go.ChangeShapes Go.WideShapes Go.ChangeAt Go.RowKit
set_option linter.unusedVariables false
set_option linter.unusedSimpArgs false

def ev3 : Ev := ⟨3, 0, 0, 0, 0, 0, 0⟩
theorem one3 : (allC q7 [[ev3]]).length = 1 := by decide
theorem ofT_one {ks : List Int} {cs : List Ct} {ps : List Pn} (h : OfT ks cs ps) (h1 : cs.length = 1) : ps.length = 1 := by
  have := h.few
  match cs, h1 with
  | [c], _ =>
    obtain ⟨p, hp, -⟩ := h.all c (by simp)
    have := List.length_pos_of_mem hp
    simp at *
    omega
theorem chk_of_parse {s : ByteArray} {q : Qy} (h : parseQ s = .ok q) : chkQ q = 0 := by
  unfold parseQ at h
  split at h
  · cases h
  · cases hq : questP (lexT s).2 with
    | error c => rw [hq] at h; cases h
    | ok q9 =>
      rw [hq] at h
      simp only at h
      split at h
      · cases h
      · rename_i hc
        cases h
        exact Classical.byContradiction hc
theorem partC_vs {q : Qy} : ∀ (l : List Ev) (g : Int) (k : Bool), ∀ c ∈ partC q g k l, c.vs.length = q.aggs.length
  | [], g, k, c, hc => by simp [partC] at hc
  | x :: l, g, k, c, hc => by
    unfold partC at hc
    by_cases h : evC x ≠ 0
    · rw [if_pos h] at hc
      exact partC_vs l g k c hc
    · rw [if_neg h] at hc
      rcases List.mem_append.1 hc with hc | hc
      · unfold takeC at hc
        split at hc
        · exact putL_vs c hc
        · simp at hc
      · exact partC_vs l _ true c hc
theorem allC_vs {q : Qy} {M : List (List Ev)} : ∀ c ∈ allC q M, c.vs.length = q.aggs.length := fun c hc => by
  obtain ⟨l, -, h⟩ := List.mem_flatMap.1 hc
  exact partC_vs l 0 false c h
theorem os_few {q : Qy} {M : List (List Ev)} {os : List Po} {tbl : List Pn} (ho : os.map outO = tbl.map outP) (hot : OfT (q.aggs.map AgQ.kind) (allC q M) tbl) (h4 : q.aggs.length ≤ 4) : ∀ o ∈ os, o.vs.length ≤ 1000 := fun o h => by
  have hm : outO o ∈ tbl.map outP := by rw [← ho]; exact List.mem_map_of_mem h
  obtain ⟨p, hp, e⟩ := List.mem_map.1 hm
  have e4 : p.ac.map acV = o.vs := congrArg (fun x => x.2.2.2) e
  rw [← e4, List.length_map, (hot.acc p hp).2.1, accOf_len _ _ (fun c hc => by rw [List.length_map]; exact allC_vs c (List.mem_filter.1 hc).1), List.length_map]
  omega
theorem allC_len {q : Qy} (hS : QyS q) : ∀ (M : List (List Ev)), (∀ l ∈ M, l.length ≤ 40) → (allC q M).length ≤ 160 * M.length
  | [], _ => by simp [allC]
  | l :: M, h => by
    rw [allC_cons, List.length_append, List.length_cons]
    have h1 := (partC_len hS l 0 false).1
    have h2 := h l (by simp)
    have h3 := allC_len hS M (fun x hx => h x (by simp [hx]))
    omega
theorem allN_len {q : Qy} (hS : QyS q) : ∀ (M : List (List Ev)), (∀ l ∈ M, l.length ≤ 40) → allN q M ≤ 160 * M.length
  | [], _ => by simp [allN]
  | l :: M, h => by
    rw [allN_cons, List.length_cons]
    have h1 := (partC_len hS l 0 false).2
    have h2 := h l (by simp)
    have h3 := allN_len hS M (fun x hx => h x (by simp [hx]))
    omega
theorem os_len {os : List Po} {ps : List Pn} (h : os.map outO = ps.map outP) : os.length = ps.length := by
  have := congrArg List.length h
  simpa using this

set_option maxRecDepth 100000 in
set_option maxHeartbeats 1500000 in
theorem topParts_walk (s : ByteArray) (pv : Value) (vs : List Value) (M : List (List Ev)) (w : World) (ht : TabQ w) (hM : PtsR w pv vs M) (hml : M.length ≤ maxLen) :
    Calls Tryz.prog 4 #[.string s, pv] w fun e w' => e = .returned (.bool true) ∧ Below w.heap.size w w' := by
  obtain ⟨ap, cp, rfl⟩ := rowG_shape hM.row
  have PA := parse_any lit7 w ht
  unfold ParseR at PA
  rw [parse7] at PA
  simp only at PA
  unfold lit7 at PA
  have hc7 := chk7
  have h17 := one3
  generalize q7 = q at *
  have PAH := hidE PA
  have HT := hidE ht
  have HM := hidE hM
  have HC := hidE hc7
  have H17 := hidE h17
  clear PA ht hM hc7 h17
  go_enter Tryz.func4, Tryz.ntmps4
  go_wp2_with fail
  refine PAH.out.mono ?_
  rintro r w1 ⟨hb, va, vw, vb, ps, rfl, hqo⟩
  have hqg := qyO_G hqo
  obtain ⟨ao, cap, rfl⟩ := rowG_shape hqg.ag.row
  obtain ⟨a2, c2, rfl⟩ := rowG_shape hqg.wh
  obtain ⟨a3, c3, rfl⟩ := rowG_shape hqg.by_
  have B2 := hidE (hb.trans ((below_alloc w1 (.cells #[Value.slice ao ps.length cap, Value.slice a2 q.wh.length c2, Value.slice a3 q.bys.length c3, Value.int .i64 q.size, Value.int .i64 q.slide, Value.int .i64 q.delay, Value.int .i64 q.late] 32)).mono hb.size))
  have G2 := hidE (qyG_below hqg (below_alloc w1 (.cells #[Value.slice ao ps.length cap, Value.slice a2 q.wh.length c2, Value.slice a3 q.bys.length c3, Value.int .i64 q.size, Value.int .i64 q.slide, Value.int .i64 q.delay, Value.int .i64 q.late] 32)))
  have BQ := hidE (blk_alloc w1 [Value.slice ao ps.length cap, Value.slice a2 q.wh.length c2, Value.slice a3 q.bys.length c3, Value.int .i64 q.size, Value.int .i64 q.slide, Value.int .i64 q.delay, Value.int .i64 q.late] 32)
  have hlt : w.heap.size ≤ w1.heap.size := hb.size
  have A0 := answer_any _ _ _ (.slice none 0 0) q ps [] [] _ G2.out HC.out ⟨⟨rfl, .inl ⟨⟨_, _, rfl⟩, rfl⟩⟩, rfl, fun i v l h => by simp at h⟩ (by decide) (fun l hl => by simp at hl)
  unfold qyV at A0 ⊢
  have e0 : allN q [] = 0 := rfl
  rw [e0] at A0
  have A0H := hidE A0
  clear A0 hb hqg hqo PAH e0
  go_wp2_with fail
  refine A0H.out.mono ?_
  rintro e w3 ⟨u, os, tbl, rfl, hp, ho, hot, hb⟩
  have hos : os.length = 0 := by
    have := hot.few
    rw [os_len ho]
    simpa [allC] using this
  obtain ⟨au, cu, rfl⟩ := owns_shapeE hp.row
  rw [hos]
  have B3 := nxt B2 hb
  have G3 := hidE (qyG_below G2.out hb)
  have BQ3 := hidE (blk_below BQ.out hb BQ.out.lt)
  have q0 : w3.cell? ⟨w1.heap.size, 0, none⟩ = some (Value.slice ao ps.length cap) := BQ3.out.c 0 (by simp)
  have q1 : w3.cell? ⟨w1.heap.size, 1, none⟩ = some (Value.slice a2 q.wh.length c2) := BQ3.out.c 1 (by simp)
  have q2 : w3.cell? ⟨w1.heap.size, 2, none⟩ = some (Value.slice a3 q.bys.length c3) := BQ3.out.c 2 (by simp)
  have q3 : w3.cell? ⟨w1.heap.size, 3, none⟩ = some (Value.int .i64 q.size) := BQ3.out.c 3 (by simp)
  have q4 : w3.cell? ⟨w1.heap.size, 4, none⟩ = some (Value.int .i64 q.slide) := BQ3.out.c 4 (by simp)
  have q5 : w3.cell? ⟨w1.heap.size, 5, none⟩ = some (Value.int .i64 q.delay) := BQ3.out.c 5 (by simp)
  have q6 : w3.cell? ⟨w1.heap.size, 6, none⟩ = some (Value.int .i64 q.late) := BQ3.out.c 6 (by simp)
  have lq := BQ3.out.lt
  clear hp ho hot hb hos A0H G2 B2 BQ
  have ba2 := below2 w3 (.cells #[.int .i64 3, .int .i64 0, .int .i64 0, .int .i64 0, .int .i64 0, .int .i64 0, .int .i64 0] 49) (.cells #[.slice (some ⟨w3.heap.size, 0, none⟩) 1 1] 50)
  have BE1 := blk_below (blk_alloc w3 [.int .i64 3, .int .i64 0, .int .i64 0, .int .i64 0, .int .i64 0, .int .i64 0, .int .i64 0] 49) (below_alloc (w3.alloc (.cells #[.int .i64 3, .int .i64 0, .int .i64 0, .int .i64 0, .int .i64 0, .int .i64 0, .int .i64 0] 49)) (.cells #[.slice (some ⟨w3.heap.size, 0, none⟩) 1 1] 50)) (by simp)
  have BE2 := blk_alloc (w3.alloc (.cells #[.int .i64 3, .int .i64 0, .int .i64 0, .int .i64 0, .int .i64 0, .int .i64 0, .int .i64 0] 49)) [.slice (some ⟨w3.heap.size, 0, none⟩) 1 1] 50
  rw [show (w3.alloc (.cells #[.int .i64 3, .int .i64 0, .int .i64 0, .int .i64 0, .int .i64 0, .int .i64 0, .int .i64 0] 49)).heap.size = w3.heap.size + 1 from by simp] at BE2
  have PT : PtsR ((w3.alloc (.cells #[.int .i64 3, .int .i64 0, .int .i64 0, .int .i64 0, .int .i64 0, .int .i64 0, .int .i64 0] 49)).alloc (.cells #[.slice (some ⟨w3.heap.size, 0, none⟩) 1 1] 50)) (.slice (some ⟨w3.heap.size + 1, 0, none⟩) 1 1) [.slice (some ⟨w3.heap.size, 0, none⟩) 1 1] [[ev3]] := by
    refine ⟨⟨rfl, .inr ⟨w3.heap.size + 1, 0, 1, rfl, Nat.le_refl _, by decide, BE2.lt, fun j hj => ?_⟩⟩, rfl, fun j v l h1 h2 => ?_⟩
    · have : j < 1 := by simpa using hj
      have : j = 0 := by omega
      subst this
      exact BE2.c 0 (by simp)
    · have : j = 0 := by
        have := (List.getElem?_eq_some_iff.1 h1).1
        simpa using this
      subst this
      cases h1
      cases h2
      refine ⟨rfl, .inr ⟨w3.heap.size, 0, 1, rfl, Nat.le_refl _, by decide, BE1.lt, fun j hj => ?_⟩⟩
      rw [Nat.zero_add]
      exact BE1.c j (by simpa using hj)
  have A1 := answer_any _ _ _ _ q ps _ [[ev3]] _ (qyG_below G3.out ba2) HC.out PT (by decide) (fun l hl => by rw [List.mem_singleton.1 hl]; decide)
  unfold qyV at A1
  generalize allN q [[ev3]] = n3 at *
  have A1H := hidE A1
  have B5 := hidE (B3.out.trans (ba2.mono B3.out.size))
  have BQ5 := hidE (blk_below BQ3.out ba2 BQ3.out.lt)
  clear A1 PT BE1 BE2 ba2 B3 BQ3 G3
  go_wp2_with fail
  refine A1H.out.mono ?_
  rintro e w6 ⟨u6, os6, tbl6, rfl, hp, ho, hot, hb⟩
  have hos : os6.length = 1 := by
    rw [os_len ho]
    exact ofT_one hot H17.out
  obtain ⟨a6, c6, rfl⟩ := owns_shapeE hp.row
  rw [hos]
  have B6 := nxt B5 hb
  have BQ6 := hidE (blk_below BQ5.out hb BQ5.out.lt)
  have ASK := asked_any s w6 (HT.out.below B6.out)
  unfold AskR at ASK
  have ASKH := hidE ASK
  clear hp ho hot hb hos A1H B5 BQ5 ASK H17 HC q0 q1 q2 q3 q4 q5 q6 lq
  go_wp2_with fail
  refine ASKH.out.mono ?_
  rintro r w7 ⟨hb, hr⟩
  have B7 := nxt B6 hb
  have BQ7 := hidE (blk_below BQ6.out hb BQ6.out.lt)
  have hgq6 := BQ6.out.lt
  clear ASKH B6 BQ6
  have q0 : w7.cell? ⟨w1.heap.size, 0, none⟩ = some (Value.slice ao ps.length cap) := BQ7.out.c 0 (by simp)
  have q1 : w7.cell? ⟨w1.heap.size, 1, none⟩ = some (Value.slice a2 q.wh.length c2) := BQ7.out.c 1 (by simp)
  have q2 : w7.cell? ⟨w1.heap.size, 2, none⟩ = some (Value.slice a3 q.bys.length c3) := BQ7.out.c 2 (by simp)
  have q3 : w7.cell? ⟨w1.heap.size, 3, none⟩ = some (Value.int .i64 q.size) := BQ7.out.c 3 (by simp)
  have q4 : w7.cell? ⟨w1.heap.size, 4, none⟩ = some (Value.int .i64 q.slide) := BQ7.out.c 4 (by simp)
  have q5 : w7.cell? ⟨w1.heap.size, 5, none⟩ = some (Value.int .i64 q.delay) := BQ7.out.c 5 (by simp)
  have q6 : w7.cell? ⟨w1.heap.size, 6, none⟩ = some (Value.int .i64 q.late) := BQ7.out.c 6 (by simp)
  have f0 := BQ7.out.fz 0
  have f1 := BQ7.out.fz 1
  have f2 := BQ7.out.fz 2
  have f3 := BQ7.out.fz 3
  have f4 := BQ7.out.fz 4
  have f5 := BQ7.out.fz 5
  have f6 := BQ7.out.fz 6
  have lq := BQ7.out.lt
  rcases hr with rfl | ⟨qq, va, vw, vb, pp, hpq, rfl, hqo⟩
  · unfold qzV
    have BZ9 : Hid (Below w.heap.size w (((((((w7.setCell ⟨w1.heap.size, 0, none⟩ (.slice none 0 0)).setCell ⟨w1.heap.size, 1, none⟩ (.slice none 0 0)).setCell ⟨w1.heap.size, 2, none⟩ (.slice none 0 0)).setCell ⟨w1.heap.size, 3, none⟩ (.int .i64 0)).setCell ⟨w1.heap.size, 4, none⟩ (.int .i64 0)).setCell ⟨w1.heap.size, 5, none⟩ (.int .i64 0)).setCell ⟨w1.heap.size, 6, none⟩ (.int .i64 0))) := B7.out.trans (keptB_below (keptB_set (keptB_set (keptB_set (keptB_set (keptB_set (keptB_set (keptB_set (keptB_of_below (bad := fun k => k = w1.heap.size) (Below.refl w7.heap.size w7)) rfl 0 (.slice none 0 0)) rfl 1 (.slice none 0 0)) rfl 2 (.slice none 0 0)) rfl 3 (.int .i64 0)) rfl 4 (.int .i64 0)) rfl 5 (.int .i64 0)) rfl 6 (.int .i64 0)) B7.out.size (fun k e => by omega))
    clear BQ7 hb
    go_wp2_with fail
    go_ret
    exact ⟨rfl, BZ9.out⟩
  · have hqg := qyO_G hqo
    obtain ⟨o1, d1, rfl⟩ := rowG_shape hqg.ag.row
    obtain ⟨o2, d2, rfl⟩ := rowG_shape hqg.wh
    obtain ⟨o3, d3, rfl⟩ := rowG_shape hqg.by_
    have KZ : KeptB w7 (((((((w7.setCell ⟨w1.heap.size, 0, none⟩ (Value.slice o1 pp.length d1)).setCell ⟨w1.heap.size, 1, none⟩ (Value.slice o2 qq.wh.length d2)).setCell ⟨w1.heap.size, 2, none⟩ (Value.slice o3 qq.bys.length d3)).setCell ⟨w1.heap.size, 3, none⟩ (Value.int .i64 qq.size)).setCell ⟨w1.heap.size, 4, none⟩ (Value.int .i64 qq.slide)).setCell ⟨w1.heap.size, 5, none⟩ (Value.int .i64 qq.delay)).setCell ⟨w1.heap.size, 6, none⟩ (Value.int .i64 qq.late)) (fun k => k = w1.heap.size) := (keptB_set (keptB_set (keptB_set (keptB_set (keptB_set (keptB_set (keptB_set (keptB_of_below (bad := fun k => k = w1.heap.size) (Below.refl w7.heap.size w7)) rfl 0 (Value.slice o1 pp.length d1)) rfl 1 (Value.slice o2 qq.wh.length d2)) rfl 2 (Value.slice o3 qq.bys.length d3)) rfl 3 (Value.int .i64 qq.size)) rfl 4 (Value.int .i64 qq.slide)) rfl 5 (Value.int .i64 qq.delay)) rfl 6 (Value.int .i64 qq.late))
    have BZ : BlkAt (((((((w7.setCell ⟨w1.heap.size, 0, none⟩ (Value.slice o1 pp.length d1)).setCell ⟨w1.heap.size, 1, none⟩ (Value.slice o2 qq.wh.length d2)).setCell ⟨w1.heap.size, 2, none⟩ (Value.slice o3 qq.bys.length d3)).setCell ⟨w1.heap.size, 3, none⟩ (Value.int .i64 qq.size)).setCell ⟨w1.heap.size, 4, none⟩ (Value.int .i64 qq.slide)).setCell ⟨w1.heap.size, 5, none⟩ (Value.int .i64 qq.delay)).setCell ⟨w1.heap.size, 6, none⟩ (Value.int .i64 qq.late)) w1.heap.size [Value.slice o1 pp.length d1, Value.slice o2 qq.wh.length d2, Value.slice o3 qq.bys.length d3, Value.int .i64 qq.size, Value.int .i64 qq.slide, Value.int .i64 qq.delay, Value.int .i64 qq.late] := by simpa using (blk_set (blk_set (blk_set (blk_set (blk_set (blk_set (blk_set BQ7.out 0 (Value.slice o1 pp.length d1) (by simp)) 1 (Value.slice o2 qq.wh.length d2) (by simp)) 2 (Value.slice o3 qq.bys.length d3) (by simp)) 3 (Value.int .i64 qq.size) (by simp)) 4 (Value.int .i64 qq.slide) (by simp)) 5 (Value.int .i64 qq.delay) (by simp)) 6 (Value.int .i64 qq.late) (by simp))
    have QZ : QyO (((((((w7.setCell ⟨w1.heap.size, 0, none⟩ (Value.slice o1 pp.length d1)).setCell ⟨w1.heap.size, 1, none⟩ (Value.slice o2 qq.wh.length d2)).setCell ⟨w1.heap.size, 2, none⟩ (Value.slice o3 qq.bys.length d3)).setCell ⟨w1.heap.size, 3, none⟩ (Value.int .i64 qq.size)).setCell ⟨w1.heap.size, 4, none⟩ (Value.int .i64 qq.slide)).setCell ⟨w1.heap.size, 5, none⟩ (Value.int .i64 qq.delay)).setCell ⟨w1.heap.size, 6, none⟩ (Value.int .i64 qq.late)) w6.heap.size _ _ _ qq pp := ⟨hqo.qa, own_kept hqo.row KZ (fun k e h9 => by have := (own_at hqo.row k e).1; omega), fun p hp => optR_kept (hqo.nds p hp) KZ (fun k e => by omega), optR_kept hqo.wh KZ (fun k e => by omega), optR_kept hqo.by_ KZ (fun k e => by omega)⟩
    have B8 : Hid (Below w.heap.size w (((((((w7.setCell ⟨w1.heap.size, 0, none⟩ (Value.slice o1 pp.length d1)).setCell ⟨w1.heap.size, 1, none⟩ (Value.slice o2 qq.wh.length d2)).setCell ⟨w1.heap.size, 2, none⟩ (Value.slice o3 qq.bys.length d3)).setCell ⟨w1.heap.size, 3, none⟩ (Value.int .i64 qq.size)).setCell ⟨w1.heap.size, 4, none⟩ (Value.int .i64 qq.slide)).setCell ⟨w1.heap.size, 5, none⟩ (Value.int .i64 qq.delay)).setCell ⟨w1.heap.size, 6, none⟩ (Value.int .i64 qq.late))) := B7.out.trans (keptB_below KZ B7.out.size (fun k e => by omega))
    have G8 := hidE (qyO_G QZ)
    have BQ8 := hidE BZ
    have HC8 := hidE (chk_of_parse hpq)
    have LT := hidE (light_any (.slice ap M.length cp) vs M (((((((w7.setCell ⟨w1.heap.size, 0, none⟩ (Value.slice o1 pp.length d1)).setCell ⟨w1.heap.size, 1, none⟩ (Value.slice o2 qq.wh.length d2)).setCell ⟨w1.heap.size, 2, none⟩ (Value.slice o3 qq.bys.length d3)).setCell ⟨w1.heap.size, 3, none⟩ (Value.int .i64 qq.size)).setCell ⟨w1.heap.size, 4, none⟩ (Value.int .i64 qq.slide)).setCell ⟨w1.heap.size, 5, none⟩ (Value.int .i64 qq.delay)).setCell ⟨w1.heap.size, 6, none⟩ (Value.int .i64 qq.late)) (ptsR_below HM.out B8.out) hml)
    clear KZ BZ QZ hqo hqg hpq BQ7 B7 hb
    unfold qyV
    go_wp2_with fail
    generalize (((((((w7.setCell ⟨w1.heap.size, 0, none⟩ (Value.slice o1 pp.length d1)).setCell ⟨w1.heap.size, 1, none⟩ (Value.slice o2 qq.wh.length d2)).setCell ⟨w1.heap.size, 2, none⟩ (Value.slice o3 qq.bys.length d3)).setCell ⟨w1.heap.size, 3, none⟩ (Value.int .i64 qq.size)).setCell ⟨w1.heap.size, 4, none⟩ (Value.int .i64 qq.slide)).setCell ⟨w1.heap.size, 5, none⟩ (Value.int .i64 qq.delay)).setCell ⟨w1.heap.size, 6, none⟩ (Value.int .i64 qq.late)) = w8 at *
    refine LT.out.mono ?_
    rintro e w9 ⟨rfl, hb⟩
    have B9 := nxt B8 hb
    have G9 := hidE (qyG_below G8.out hb)
    have BQ9 := hidE (blk_below BQ8.out hb BQ8.out.lt)
    clear LT B8 G8 BQ8 hb q0 q1 q2 q3 q4 q5 q6 f0 f1 f2 f3 f4 f5 f6 lq
    cases hlm : lightM M with
    | false =>
      go_wp2_with fail
      go_ret
      exact ⟨rfl, B9.out⟩
    | true =>
      obtain ⟨h3, h40⟩ := lightM_ok hlm
      have H40 := hidE (fun l hl => (h40 l hl).1)
      have HM9 := hidE (ptsR_below HM.out B9.out)
      have AN : Hid (∀ w' pv' vs' M', Below w9.heap.size w9 w' → PtsR w' pv' vs' M' → M'.length ≤ 3 → (∀ l ∈ M', l.length ≤ 40) → Calls Tryz.prog 11 #[.agg #[Value.slice o1 pp.length d1, Value.slice o2 qq.wh.length d2, Value.slice o3 qq.bys.length d3, Value.int .i64 qq.size, Value.int .i64 qq.slide, Value.int .i64 qq.delay, Value.int .i64 qq.late], pv'] w' fun e w'' => ∃ u os tbl, e = .returned (.tuple #[u, .int .i64 (allN qq M' : Nat)]) ∧ PosR w'.heap.size w'' u os ∧ os.map outO = tbl.map outP ∧ OfT (qq.aggs.map AgQ.kind) (allC qq M') tbl ∧ Below w'.heap.size w' w'') := fun w' pv' vs' M' hb hp h3 hl => answer_any _ _ _ pv' qq pp vs' M' w' (qyG_below G9.out hb) HC8.out hp h3 hl
      have q0 : w9.cell? ⟨w1.heap.size, 0, none⟩ = some (Value.slice o1 pp.length d1) := BQ9.out.c 0 (by simp)
      have q1 : w9.cell? ⟨w1.heap.size, 1, none⟩ = some (Value.slice o2 qq.wh.length d2) := BQ9.out.c 1 (by simp)
      have q2 : w9.cell? ⟨w1.heap.size, 2, none⟩ = some (Value.slice o3 qq.bys.length d3) := BQ9.out.c 2 (by simp)
      have q3 : w9.cell? ⟨w1.heap.size, 3, none⟩ = some (Value.int .i64 qq.size) := BQ9.out.c 3 (by simp)
      have q4 : w9.cell? ⟨w1.heap.size, 4, none⟩ = some (Value.int .i64 qq.slide) := BQ9.out.c 4 (by simp)
      have q5 : w9.cell? ⟨w1.heap.size, 5, none⟩ = some (Value.int .i64 qq.delay) := BQ9.out.c 5 (by simp)
      have q6 : w9.cell? ⟨w1.heap.size, 6, none⟩ = some (Value.int .i64 qq.late) := BQ9.out.c 6 (by simp)
      have lq := BQ9.out.lt
      have A2 := AN.out w9 _ vs M (Below.refl _ _) HM9.out h3 H40.out
      obtain ⟨NM, hNM⟩ : ∃ NM, allN qq M = NM := ⟨_, rfl⟩
      rw [hNM] at A2
      have HNM := hidE hNM
      have A2H := hidE A2
      clear A2 hlm h40 hNM HM
      go_wp2_with fail
      refine A2H.out.mono ?_
      rintro e wa ⟨u1, os1, tbl1, rfl, hp1, ho1, hot1, hb⟩
      obtain ⟨e1, g1, rfl⟩ := owns_shapeE hp1.row
      have HP1 := hidE hp1
      have HO1 := hidE ho1
      have HOT1 := hidE hot1
      have BA := hidE hb
      have BQa := hidE (blk_below BQ9.out hb BQ9.out.lt)
      clear hp1 ho1 hot1 hb A2H q0 q1 q2 q3 q4 q5 q6 lq
      obtain ⟨MR, hMR⟩ : ∃ MR, M.reverse = MR := ⟨_, rfl⟩
      have HMR := hidE hMR
      have A3 : Hid (∀ w' pv', Below wa.heap.size wa w' → PtsR w' pv' vs.reverse MR → Calls Tryz.prog 11 #[.agg #[Value.slice o1 pp.length d1, Value.slice o2 qq.wh.length d2, Value.slice o3 qq.bys.length d3, Value.int .i64 qq.size, Value.int .i64 qq.slide, Value.int .i64 qq.delay, Value.int .i64 qq.late], pv'] w' fun e w'' => ∃ u os tbl, e = .returned (.tuple #[u, .int .i64 (NM : Nat)]) ∧ PosR w'.heap.size w'' u os ∧ os.map outO = tbl.map outP ∧ OfT (qq.aggs.map AgQ.kind) (allC qq M.reverse) tbl ∧ Below w'.heap.size w' w'') := fun w' pv' hb hp => by
        have e9 : allN qq MR = NM := by rw [← hMR, allN_rev, HNM.out]
        have := AN.out w' pv' vs.reverse MR (BA.out.trans (hb.mono BA.out.size)) hp (by rw [← hMR]; simpa using h3) (fun l hl => H40.out l (by rw [← hMR] at hl; simpa using hl))
        rw [e9, ← hMR] at this
        exact this
      clear hMR
      go_wp2_with fail
      refine wp_region_held (S := fun w' => Below wa.heap.size wa w') (by kernel_rfl) ?_
      have hS : Below wa.heap.size wa ({ wa with drawn := wa.drawn + 1 } : World) := (Below.refl _ _).drew
      generalize ({ wa with drawn := wa.drawn + 1 } : World) = wd at *
      refine held_take (i := 0) (v := .agg #[Value.slice o1 pp.length d1, Value.slice o2 qq.wh.length d2, Value.slice o3 qq.bys.length d3, Value.int .i64 qq.size, Value.int .i64 qq.slide, Value.int .i64 qq.delay, Value.int .i64 qq.late]) (L := #[true, false, false, false, false, false, false, false, false]) rfl (by kernel_rfl) (by kernel_rfl) (by kernel_rfl) (fun c a w h => h) (Or.inl ⟨by kernel_rfl, fun wq hq => by have K := blk_below BQa.out hq BQa.out.lt; have q0 : wq.cell? ⟨_, 0, none⟩ = some (Value.slice o1 pp.length d1) := K.c 0 (by simp); have q1 : wq.cell? ⟨_, 1, none⟩ = some (Value.slice o2 qq.wh.length d2) := K.c 1 (by simp); have q2 : wq.cell? ⟨_, 2, none⟩ = some (Value.slice o3 qq.bys.length d3) := K.c 2 (by simp); have q3 : wq.cell? ⟨_, 3, none⟩ = some (Value.int .i64 qq.size) := K.c 3 (by simp); have q4 : wq.cell? ⟨_, 4, none⟩ = some (Value.int .i64 qq.slide) := K.c 4 (by simp); have q5 : wq.cell? ⟨_, 5, none⟩ = some (Value.int .i64 qq.delay) := K.c 5 (by simp); have q6 : wq.cell? ⟨_, 6, none⟩ = some (Value.int .i64 qq.late) := K.c 6 (by simp); clear K; go_simp⟩) hS (by kernel_rfl) ?_
      refine held_take (i := 1) (v := .slice ap M.length cp) (L := #[true, true, false, false, false, false, false, false, false]) rfl (by kernel_rfl) (by kernel_rfl) (by kernel_rfl) (fun c a w h => h) (Or.inl ⟨by kernel_rfl, fun wq hq => by go_simp⟩) hS (by kernel_rfl) ?_
      refine held_go (i := 2) (L := #[true, true, true, false, false, false, false, false, false]) (by kernel_rfl) rfl (by kernel_rfl) (by kernel_rfl) ?_
      intro K' hK
      go_simp
      refine (turned_any _ vs M _ (ptsR_below (ptsR_below HM9.out BA.out) hS) h3).mono ?_
      rintro e w11 ⟨u9, rfl, hpt, hb⟩
      have hS1 := hS.trans (hb.mono hS.size)
      rw [HMR.out] at hpt
      obtain ⟨a9, c9, rfl⟩ := rowG_shape hpt.row
      have HPT := hidE hpt
      refine hK _ _ ⟨hS1, ?_⟩
      clear hK hb hpt
      refine held_go (i := 3) (L := #[true, true, true, true, false, false, false, false, false]) (by kernel_rfl) rfl (by kernel_rfl) (by kernel_rfl) ?_
      intro K' hK
      go_simp
      refine (A3.out _ _ hS1 HPT.out).mono ?_
      rintro e wb ⟨u, os, tbl, rfl, hp, ho, hot, hb⟩
      have hS2 := hS1.trans (hb.mono hS1.size)
      obtain ⟨au, cu, rfl⟩ := owns_shapeE hp.row
      have HP9 := hidE hp
      have HO9 := hidE ho
      have HT9 := hidE hot
      refine hK _ _ ⟨hS2, ?_⟩
      clear hK hb hp ho hot
      refine held_take (i := 4) (v := .tuple #[.slice au os.length cu, .int .i64 (NM : Nat)]) (L := #[true, true, true, true, true, false, false, false, false]) rfl (by kernel_rfl) (by kernel_rfl) (by kernel_rfl) (fun c a w h => h) (Or.inl ⟨by kernel_rfl, fun wq hq => by go_simp⟩) hS2 (by kernel_rfl) ?_
      refine held_take (i := 5) (v := .slice au os.length cu) (L := #[true, true, true, true, true, true, false, false, false]) rfl (by kernel_rfl) (by kernel_rfl) (by kernel_rfl) (fun c a w h => h) (Or.inl ⟨by kernel_rfl, fun wq hq => by go_simp⟩) hS2 (by kernel_rfl) ?_
      refine held_take (i := 6) (v := .int .i64 (NM : Nat)) (L := #[true, true, true, true, true, true, true, false, false]) rfl (by kernel_rfl) (by kernel_rfl) (by kernel_rfl) (fun c a w h => h) (Or.inl ⟨by kernel_rfl, fun wq hq => by go_simp⟩) hS2 (by kernel_rfl) ?_
      refine held_take (i := 7) (v := .slice au os.length cu) (L := #[true, true, true, true, true, true, true, true, false]) rfl (by kernel_rfl) (by kernel_rfl) (by kernel_rfl) (fun c a w h => h) (Or.inl ⟨by kernel_rfl, fun wq hq => by go_simp⟩) hS2 (by kernel_rfl) ?_
      refine held_go (i := 8) (L := #[true, true, true, true, true, true, true, true, true]) (by kernel_rfl) rfl (by kernel_rfl) (by kernel_rfl) ?_
      intro K' hK
      go_simp
      refine hK _ _ ⟨hS2, ?_⟩
      clear hK
      refine wpAnyH_done (by kernel_rfl) ?_ _
      have HS2 := hidE hS2
      have hS1s := hS1.size
      have hss := hS.size
      clear hS A3
      have bne : ((NM : Int) != (NM : Int)) = false := by simp
      have hq4 : qq.aggs.length ≤ 4 := (okQ_of HC8.out).n4
      have SP := hidE (samePanes_eq os1 os _ _ wb (rowG_of_owns (own_keep HP1.out.row HS2.out (Nat.le_refl _))) (fun o h => rowG_of_owns (own_keep (HP1.out.vs o h) HS2.out (Nat.le_refl _))) (rowG_of_owns HP9.out.row) (fun o h => rowG_of_owns (HP9.out.vs o h))
        (by have h1 := HOT1.out.few; have h2 := allC_len (qyS_of HC8.out) M H40.out; rw [os_len HO1.out]; omega) (os_few HO1.out HOT1.out hq4) (HO1.out.trans ((ofT_same HOT1.out HT9.out (sameK_perm _ (allC_rev qq M).symm)).trans HO9.out.symm)))
      have BB := hidE (BA.out.trans (HS2.out.mono BA.out.size))
      clear hS1 hS2 HP1 HP9 HO1 HO9 HOT1 HT9 HPT HMR
      go_wp2_with fail
      refine SP.out.mono ?_
      rintro e wc ⟨rfl, hb⟩
      have BC := hidE (BB.out.trans (hb.mono BB.out.size))
      clear SP BB hb HS2 BA BQa
      go_wp2_with fail
      go_loopw [13, 14] (fun n i wr => ∃ (m K : Nat), m ≤ M.length ∧ K ≤ 480 ∧ n = .int .i64 K ∧ i = .int .i64 m ∧ Hid (K = allN qq (M.drop m)) ∧ Hid (Below w9.heap.size w9 wr)) (fun _ i _ => M.length - (intOf i).toNat)
      case atStart => exact ⟨0, NM, Nat.zero_le _, by have := allN_len (qyS_of HC8.out) M H40.out; rw [HNM.out] at this; omega, rfl, rfl, by show _ = _; rw [List.drop_zero, HNM.out], BC⟩
      case round =>
        clear BC
        obtain ⟨m, K, hm, hk480, rfl, rfl, HKK, HB⟩ := hrel
        by_cases hlt : m < M.length
        · have HMr := ptsR_below HM9.out HB.out
          obtain ⟨gp, op, v, hap, hv, y0, z1, z2, z3⟩ := rowG_cell HMr.row m hlt
          subst hap
          have hl40 := H40.out M[m] (List.getElem_mem hlt)
          have hml9 : M[m]? = some M[m] := List.getElem?_eq_getElem hlt
          have hdr : M.drop m = M[m] :: M.drop (m + 1) := List.drop_eq_getElem_cons hlt
          rw [hdr, allN_cons] at HKK
          have HP1 : Hid (PtsR wr (.slice (some ⟨gp, op + m, none⟩) 1 (cp - m)) [v] [M[m]]) := by
            refine ⟨⟨rfl, .inr ⟨gp, op + m, cp - m, rfl, by show 1 ≤ _; omega, by omega, z3, fun j hj => ?_⟩⟩, rfl, fun j v9 l9 h1 h2 => ?_⟩
            · have : j = 0 := by
                have : j < 1 := by simpa using hj
                omega
              subst this
              exact y0
            · have : j = 0 := by
                have := (List.getElem?_eq_some_iff.1 h1).1
                simpa using this
              subst this
              cases h1
              cases h2
              exact HMr.each m _ _ hv hml9
          obtain ⟨NL, hNL⟩ : ∃ NL, partN qq 0 false M[m] = NL := ⟨_, rfl⟩
          rw [hNL] at HKK
          have BQr := hidE (blk_below BQ9.out HB.out BQ9.out.lt)
          have AN1 : Hid (∀ w', Below wr.heap.size wr w' → Calls Tryz.prog 11 #[.agg #[Value.slice o1 pp.length d1, Value.slice o2 qq.wh.length d2, Value.slice o3 qq.bys.length d3, Value.int .i64 qq.size, Value.int .i64 qq.slide, Value.int .i64 qq.delay, Value.int .i64 qq.late], .slice (some ⟨gp, op + m, none⟩) 1 (cp - m)] w' fun e w'' => ∃ u os tbl, e = .returned (.tuple #[u, .int .i64 (NL : Nat)]) ∧ PosR w'.heap.size w'' u os ∧ os.map outO = tbl.map outP ∧ OfT (qq.aggs.map AgQ.kind) (allC qq [M[m]]) tbl ∧ Below w'.heap.size w' w'') := fun w' hb => by
            have e1 : allN qq [M[m]] = NL := by rw [← hNL]; simp [allN]
            have := AN.out w' _ [v] [M[m]] (HB.out.trans (hb.mono HB.out.size)) (ptsR_below HP1.out hb) (by simp) (fun x hx => by rw [List.mem_singleton.1 hx]; exact hl40)
            rw [e1] at this
            exact this
          have HNLs : NL ≤ 160 := by have := (partC_len (qyS_of HC8.out) M[m] 0 false).2; omega
          obtain ⟨K2, hK2e⟩ : ∃ K2, allN qq (M.drop (m + 1)) = K2 := ⟨_, rfl⟩
          rw [hK2e] at HKK
          have HKE := hidE hK2e
          clear hK2e
          have HK2 : Hid (K = NL + K2) := HKK
          have HKS : K2 ≤ 1000 → True := fun _ => trivial
          unfold maxLen at z2
          clear hv hml9 hdr HP1 hNL HKK HMr y0 HKS
          go_wp2_with fail
          refine wp_region_held (S := fun w' => Below wr.heap.size wr w') (by kernel_rfl) ?_
          have hS : Below wr.heap.size wr ({ wr with drawn := wr.drawn + 1 } : World) := (Below.refl _ _).drew
          generalize ({ wr with drawn := wr.drawn + 1 } : World) = wd2 at *
          refine held_take (i := 0) (v := .agg #[Value.slice o1 pp.length d1, Value.slice o2 qq.wh.length d2, Value.slice o3 qq.bys.length d3, Value.int .i64 qq.size, Value.int .i64 qq.slide, Value.int .i64 qq.delay, Value.int .i64 qq.late]) (L := #[true, false, false, false, false, false, false, false, false, false, false, false]) rfl (by kernel_rfl) (by kernel_rfl) (by kernel_rfl) (fun c a w h => h) (Or.inl ⟨by kernel_rfl, fun wq hq => by have K := blk_below BQr.out hq BQr.out.lt; have q0 : wq.cell? ⟨_, 0, none⟩ = some (Value.slice o1 pp.length d1) := K.c 0 (by simp); have q1 : wq.cell? ⟨_, 1, none⟩ = some (Value.slice o2 qq.wh.length d2) := K.c 1 (by simp); have q2 : wq.cell? ⟨_, 2, none⟩ = some (Value.slice o3 qq.bys.length d3) := K.c 2 (by simp); have q3 : wq.cell? ⟨_, 3, none⟩ = some (Value.int .i64 qq.size) := K.c 3 (by simp); have q4 : wq.cell? ⟨_, 4, none⟩ = some (Value.int .i64 qq.slide) := K.c 4 (by simp); have q5 : wq.cell? ⟨_, 5, none⟩ = some (Value.int .i64 qq.delay) := K.c 5 (by simp); have q6 : wq.cell? ⟨_, 6, none⟩ = some (Value.int .i64 qq.late) := K.c 6 (by simp); clear K; go_simp⟩) hS (by kernel_rfl) ?_
          refine held_take (i := 1) (v := .slice (some ⟨gp, op, none⟩) M.length cp) (L := #[true, true, false, false, false, false, false, false, false, false, false, false]) rfl (by kernel_rfl) (by kernel_rfl) (by kernel_rfl) (fun c a w h => h) (Or.inl ⟨by kernel_rfl, fun wq hq => by go_simp⟩) hS (by kernel_rfl) ?_
          refine held_take (i := 2) (v := .int .i64 (m : Int)) (L := #[true, true, true, false, false, false, false, false, false, false, false, false]) rfl (by kernel_rfl) (by kernel_rfl) (by kernel_rfl) (fun c a w h => h) (Or.inl ⟨by kernel_rfl, fun wq hq => by go_simp⟩) hS (by kernel_rfl) ?_
          refine held_take (i := 3) (v := .int .i64 (m : Int)) (L := #[true, true, true, true, false, false, false, false, false, false, false, false]) rfl (by kernel_rfl) (by kernel_rfl) (by kernel_rfl) (fun c a w h => h) (Or.inl ⟨by kernel_rfl, fun wq hq => by go_simp⟩) hS (by kernel_rfl) ?_
          refine held_take (i := 4) (v := .int .i64 ((m : Int) + 1)) (L := #[true, true, true, true, true, false, false, false, false, false, false, false]) rfl (by kernel_rfl) (by kernel_rfl) (by kernel_rfl) (fun c a w h => h) (Or.inl ⟨by kernel_rfl, fun wq hq => by have hw := wrapIn2 ((m : Int) + 1) (by omega) (by omega); go_simp⟩) hS (by kernel_rfl) ?_
          refine held_take (i := 5) (v := .slice (some ⟨gp, op + m, none⟩) 1 (cp - m)) (L := #[true, true, true, true, true, true, false, false, false, false, false, false]) rfl (by kernel_rfl) (by kernel_rfl) (by kernel_rfl) (fun c a w h => h) (Or.inl ⟨by kernel_rfl, fun wq hq => by have hne : ¬ cp = m := (by omega); have hin : 0 ≤ (m : Int) + 1 ∧ (m : Int) + 1 ≤ (cp : Int) := (by omega); first | (go_simp; done) | (go_simp; rw [if_pos hin, if_neg hne])⟩) hS (by kernel_rfl) ?_
          refine held_go (i := 6) (L := #[true, true, true, true, true, true, true, false, false, false, false, false]) (by kernel_rfl) rfl (by kernel_rfl) (by kernel_rfl) ?_
          intro K' hK
          go_simp
          refine (AN1.out _ hS).mono ?_
          rintro e wy ⟨u, os, tbl, rfl, hp, ho, hot, hb⟩
          have hS1 := hS.trans (hb.mono hS.size)
          obtain ⟨au, cu, rfl⟩ := owns_shapeE hp.row
          have HP9 := hidE hp
          have HO9 := hidE ho
          have HT9 := hidE hot
          refine hK _ _ ⟨hS1, ?_⟩
          clear hK hb hp ho hot
          refine held_take (i := 7) (v := .tuple #[.slice au os.length cu, .int .i64 (NL : Nat)]) (L := #[true, true, true, true, true, true, true, true, false, false, false, false]) rfl (by kernel_rfl) (by kernel_rfl) (by kernel_rfl) (fun c a w h => h) (Or.inl ⟨by kernel_rfl, fun wq hq => by go_simp⟩) hS1 (by kernel_rfl) ?_
          refine held_take (i := 8) (v := .slice au os.length cu) (L := #[true, true, true, true, true, true, true, true, true, false, false, false]) rfl (by kernel_rfl) (by kernel_rfl) (by kernel_rfl) (fun c a w h => h) (Or.inl ⟨by kernel_rfl, fun wq hq => by go_simp⟩) hS1 (by kernel_rfl) ?_
          refine held_take (i := 9) (v := .int .i64 (NL : Nat)) (L := #[true, true, true, true, true, true, true, true, true, true, false, false]) rfl (by kernel_rfl) (by kernel_rfl) (by kernel_rfl) (fun c a w h => h) (Or.inl ⟨by kernel_rfl, fun wq hq => by go_simp⟩) hS1 (by kernel_rfl) ?_
          refine held_take (i := 10) (v := .slice au os.length cu) (L := #[true, true, true, true, true, true, true, true, true, true, true, false]) rfl (by kernel_rfl) (by kernel_rfl) (by kernel_rfl) (fun c a w h => h) (Or.inl ⟨by kernel_rfl, fun wq hq => by go_simp⟩) hS1 (by kernel_rfl) ?_
          refine held_go (i := 11) (L := #[true, true, true, true, true, true, true, true, true, true, true, true]) (by kernel_rfl) rfl (by kernel_rfl) (by kernel_rfl) ?_
          intro K' hK
          go_simp
          refine hK _ _ ⟨hS1, ?_⟩
          clear hK
          refine wpAnyH_done (by kernel_rfl) ?_ _
          have HB2 := hidE (HB.out.trans (hS1.mono HB.out.size))
          have hk2 := HK2.out
          clear hS hS1 AN1 BQr HB HP9 HO9 HT9
          go_wp2_with fail
          go_roundw
          case rel => exact ⟨m + 1, K2, by omega, by omega, by congr 1; omega, by go_num, by show _ = _; rw [HKE.out], HB2⟩
          case measure => simp [intOf]; omega
        · have hme : m = M.length := by omega
          subst hme
          have hk0 : K = 0 := by
            have := HKK.out
            rw [List.drop_length] at this
            simpa [allN] using this
          subst hk0
          go_wp2_with fail
          go_ret
          exact ⟨rfl, B9.out.trans (HB.out.mono B9.out.size)⟩
end Go.Proofs.YtaomljdbndajgaaGreatDoor
/- Lists of so many. Conditions: none. -/
namespace Go.Proofs.YtaomljdbndajgaaGreatDoor
open Go.ChangeShapes Go.WideShapes Go.ChangeAt Go.RowKit
set_option linter.unusedVariables false
set_option linter.unusedSimpArgs false

theorem list4 {α : Type} {cs : List α} (h : cs.length = 4) : ∃ a b c d, cs = [a, b, c, d] := by
  match cs, h with
  | [a, b, c, d], _ => exact ⟨a, b, c, d, rfl⟩
theorem list7 {α : Type} {cs : List α} (h : cs.length = 7) : ∃ a b c d e f g, cs = [a, b, c, d, e, f, g] := by
  match cs, h with
  | [a, b, c, d, e, f, g], _ => exact ⟨a, b, c, d, e, f, g, rfl⟩
end Go.Proofs.YtaomljdbndajgaaGreatDoor

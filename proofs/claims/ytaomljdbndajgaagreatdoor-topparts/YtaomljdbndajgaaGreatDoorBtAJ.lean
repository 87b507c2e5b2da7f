/- Several texts in one, each with its own head. What is proved: what the parts say. Conditions: theirs. -/
import Derived.Test.YtaomljdbndajgaaGreatDoorBtPJ
import Derived.Test.YtaomljdbndajgaaGreatDoorExprT2J
import Derived.Test.YtaomljdbndajgaaGreatDoorPrs1J
import Derived.Test.YtaomljdbndajgaaGreatDoorBaseJ
import Derived.Test.YtaomljdbndajgaaGreatDoorLexPure2J
/- The contracts of engine.Kinds, asked, keyOf, valsOf, over this seat's translation. Conditions: as named. -/
namespace Go.Proofs.YtaomljdbndajgaaGreatDoor
open Go.ChangeShapes Go.WideShapes Go.ChangeAt Go.RowKit
set_option linter.unusedVariables false
set_option linter.unusedSimpArgs false

theorem made_ints (n : Nat) : (madeCells #[Value.int .i64 0] n).toList = (List.replicate n (0 : Int)).map (Value.int .i64) := by
  rw [made_same _ (.int .i64 0) (fun i hi => by
    have : i = 0 := by simp at hi; omega
    subst this
    rfl) (by simp)]
  simp
theorem pre_is {α : Type} {L M : List α} (hl : L.length = M.length) (h : ∀ j, j < M.length → L[j]? = M[j]?) : L = M := List.ext_getElem? fun i => by
  by_cases hi : i < M.length
  · exact h i hi
  · rw [List.getElem?_eq_none (by omega), List.getElem?_eq_none (by omega)]
/-- a question's expressions may be -/
structure QyN (q : Qy) : Prop where
  wh : ∀ n ∈ q.wh, okN n = 0
  bys : ∀ n ∈ q.bys, okN n = 0
  ag : ∀ a ∈ q.aggs, ∀ n ∈ a.of, okN n = 0
theorem below2 (W : World) (o1 o2 : Obj) : Below W.heap.size W ((W.alloc o1).alloc o2) := ((Below.refl _ _).alloc (Nat.le_refl _) o1).alloc (by simp) o2
theorem aggV_eq (a b : V2) : ((a.1 == b.1) && (a.2 == b.2)) = decide (a = b) := by
  obtain ⟨a1, a2⟩ := a
  obtain ⟨b1, b2⟩ := b
  rw [Bool.eq_iff_iff]
  simp

set_option maxRecDepth 100000 in
set_option maxHeartbeats 2000000 in
theorem kinds_any (va vw vb : Value) (q : Qy) (ps : List (AgQ × Value)) (W : World) (h : QyG W va vw vb q ps) (h4 : ps.length ≤ 4) :
    Calls Tryz.prog 26 #[qyV va vw vb q] W fun e w' => ∃ u, e = .returned u ∧ w'.ownsRow W.heap.size 3 1 u (q.aggs.map AgQ.kind).length ((q.aggs.map AgQ.kind).map (Value.int .i64)) ∧ Below W.heap.size W w' := by
  obtain ⟨i0, hi, hz0, hz1, hz2⟩ := info_parts infoI
  have hlen : q.aggs.length = ps.length := by rw [← h.qa]; simp
  have hkl : (q.aggs.map AgQ.kind).length = ps.length := by rw [List.length_map, hlen]
  rw [hkl]
  unfold qyV
  obtain ⟨ao, cap, rfl⟩ := rowG_shape h.ag.row
  obtain ⟨a2, c2, rfl⟩ := rowG_shape h.wh
  obtain ⟨a3, c3, rfl⟩ := rowG_shape h.by_
  have ba := below_alloc W (.cells #[.slice ao ps.length cap, .slice a2 q.wh.length c2, .slice a3 q.bys.length c3, .int .i64 q.size, .int .i64 q.slide, .int .i64 q.delay, .int .i64 q.late] 32)
  have BQ := blk_alloc W [.slice ao ps.length cap, .slice a2 q.wh.length c2, .slice a3 q.bys.length c3, .int .i64 q.size, .int .i64 q.slide, .int .i64 q.delay, .int .i64 q.late] 32
  have HG := hidE (qyG_below h ba)
  have HQA := hidE h.qa
  have HKL := hidE hkl
  have HBA := hidE ba
  generalize hK : q.aggs.map AgQ.kind = K at *
  have HK := hidE hK
  clear hlen h hkl hK
  go_enter Tryz.func26, Tryz.ntmps26
  go_wp2_with (at_make; go_must (refine wpList_make_full _ rfl _ _ 67 rfl W.heap.size 3 i0 (.int .i64 0) 1 Tryz.underlying67 hi hz0 hz1 .i64 .i64 _ _ ps.length rfl rfl rfl rfl (by rw [hz2]; omega) (by show _ ≤ 2 ^ 63 - 1; omega) (by simp) ?_))
  intro w1 ho hg
  have hsz : (W.alloc (.cells #[.slice ao ps.length cap, .slice a2 q.wh.length c2, .slice a3 q.bys.length c3, .int .i64 q.size, .int .i64 q.slide, .int .i64 q.delay, .int .i64 q.late] 32)).heap.size = W.heap.size + 1 := by simp
  have hb1 : Below (W.alloc (.cells #[.slice ao ps.length cap, .slice a2 q.wh.length c2, .slice a3 q.bys.length c3, .int .i64 q.size, .int .i64 q.slide, .int .i64 q.delay, .int .i64 q.late] 32)).heap.size (W.alloc (.cells #[.slice ao ps.length cap, .slice a2 q.wh.length c2, .slice a3 q.bys.length c3, .int .i64 q.size, .int .i64 q.slide, .int .i64 q.delay, .int .i64 q.late] 32)) w1 := (Below.refl _ _).grown hg (Nat.le_refl _) (fun k hk => by cases hk)
  have lq := BQ.lt
  have c0 : w1.cell? ⟨W.heap.size, 0, none⟩ = some (.slice ao ps.length cap) := (blk_below BQ hb1 BQ.lt).c 0 (by simp)
  have ho' : w1.ownsRow W.heap.size 3 1 (.slice (some ⟨W.heap.size + 1, 0, none⟩) ps.length ps.length) ps.length ((List.replicate ps.length (0 : Int)).map (Value.int .i64)) := by
    rw [← made_ints]
    exact ho
  have HO := hidE ho'
  have HB := hidE hb1
  have HSZ := hidE hsz
  clear hb1 ho ho' hg ba BQ
  go_wp2_with fail
  clear c0
  generalize (W.alloc (.cells #[.slice ao ps.length cap, .slice a2 q.wh.length c2, .slice a3 q.bys.length c3, .int .i64 q.size, .int .i64 q.slide, .int .i64 q.delay, .int .i64 q.late] 32)) = w0 at *
  go_loopw [13] (fun i wr => ∃ (m : Nat) (L : List Int), m ≤ ps.length ∧ L.length = ps.length ∧ i = .int .i64 m ∧ Hid (∀ j, j < m → L[j]? = K[j]?) ∧ Hid (wr.ownsRow W.heap.size 3 1 (.slice (some ⟨W.heap.size + 1, 0, none⟩) ps.length ps.length) ps.length (L.map (Value.int .i64))) ∧ Hid (Below w0.heap.size w0 wr)) (fun i _ => ps.length - (intOf i).toNat)
  case atStart => exact ⟨0, List.replicate ps.length 0, Nat.zero_le _, by simp, rfl, fun j hj => absurd hj (by omega), HO, HB⟩
  case round =>
    clear HO HB
    obtain ⟨m, L, hm, hL, rfl, HM, HO, HB⟩ := hrel
    by_cases hlt : m < ps.length
    · have HGr := hidE (qyG_below HG.out HB.out)
      obtain ⟨g, off, hao, hcell, q1, q2, lg⟩ := rowOf_val cellsAg_len HGr.out.ag.row m hlt
      subst hao
      have hnd := HGr.out.ag.nds ps[m] (List.getElem_mem hlt)
      have HKM : Hid (K[m]? = some ps[m].1.kind) := by show _ = _; rw [← HK.out, ← HQA.out]; simp [hlt]
      generalize ps[m] = p at *
      obtain ⟨⟨k, l⟩, v⟩ := p
      have y0 := hcell 0 (by omega)
      have y1 := hcell 1 (by omega)
      have y0 : wr.cell? ⟨g, off + m * 2, none⟩ = some (.int .i64 k) := y0
      have y1 : wr.cell? ⟨g, off + m * 2 + 1, none⟩ = some v := y1
      have hsh : ∃ a9 n9 c9, v = .slice a9 n9 c9 := by obtain ⟨a9, c9, e9⟩ := rowG_shape hnd.1; exact ⟨_, _, _, e9⟩
      obtain ⟨a9, n9, c9, rfl⟩ := hsh
      have ba2 := below_alloc wr (.cells #[.int .i64 k, .slice a9 n9 c9] 37)
      have HO2 := hidE (own_keep HO.out ba2 (Nat.le_refl _))
      have HB2 := hidE (HB.out.trans (ba2.mono HB.out.size))
      have z0 := HO2.out.cellAt m (by omega)
      rw [List.getElem?_eq_getElem (by simp; omega)] at z0
      generalize (L.map (Value.int .i64))[m]'(by simp; omega) = r0 at z0
      have f0 := owns_thawG2 HO2.out m
      have HO3 := hidE (owns_setG HO2.out m (.int .i64 k))
      rw [← List.map_set] at HO3
      have HB3 := hidE (HB2.out.setCell (p := ⟨W.heap.size + 1, m, none⟩) (by rw [HSZ.out]; exact Nat.le_refl _) (.int .i64 k))
      have HLL := hidE hL
      unfold maxLen at q2
      clear hcell hnd ba2 HO2 HB2 hL
      go_wp2_with fail
      go_roundw
      case rel => exact ⟨m + 1, L.set m k, by omega, by simpa using HLL.out, by go_num, fun j hj => by
          by_cases h9 : j = m
          · subst h9
            rw [List.getElem?_set_self (by rw [HLL.out]; omega), HKM.out]
          · rw [List.getElem?_set_ne (fun e => h9 e.symm)]
            exact HM.out j (by omega), HO3, HB3⟩
      case measure => simp [intOf]; omega
    · have hme : m = ps.length := by omega
      subst hme
      have e : L = K := pre_is (by rw [HKL.out]; exact hL) (fun j hj => HM.out j (by rw [HKL.out] at hj; exact hj))
      subst e
      go_wp2_with fail
      go_ret
      exact ⟨_, rfl, HO.out, HBA.out.trans (HB.out.mono HBA.out.size)⟩

set_option maxRecDepth 100000 in
set_option maxHeartbeats 1000000 in
theorem asked_q (va vw vb : Value) (q : Qy) (ps : List (AgQ × Value)) (x : Ev) (W : World) (h : QyG W va vw vb q ps) (hn : QyN q) (hx : ∀ p ∈ evX x, okV p) :
    Calls Tryz.prog 81 #[qyV va vw vb q, aggEv x] W fun e w' => e = .returned (.bool (askQ q x)) ∧ Below W.heap.size W w' := by
  unfold qyV
  obtain ⟨ao, cap, rfl⟩ := rowG_shape h.ag.row
  obtain ⟨a2, c2, rfl⟩ := rowG_shape h.wh
  obtain ⟨a3, c3, rfl⟩ := rowG_shape h.by_
  have ba := below2 W (.cells #[.slice ao ps.length cap, .slice a2 q.wh.length c2, .slice a3 q.bys.length c3, .int .i64 q.size, .int .i64 q.slide, .int .i64 q.delay, .int .i64 q.late] 32) (.cells #[.int .i64 x.t, .int .i64 x.k1, .int .i64 x.k2, .int .i64 x.a1, .int .i64 x.a2, .int .i64 x.b1, .int .i64 x.b2] 49)
  have HE := hidE (eval_any q.wh (.slice a2 q.wh.length c2) x.t x.k1 x.k2 x.a1 x.a2 x.b1 x.b2 _ h.lw (rowG_below h.wh ba) hn.wh hx)
  have HBA := hidE ba
  have hA : askQ q x = (q.wh.length == 0 || decide (evL opV (evX x) q.wh = (2, 1))) := rfl
  have HV := hidE (aggV_eq (evL opV (evX x) q.wh) (2, 1))
  unfold evX at *
  unfold aggE at HE
  generalize evL opV (evE x.t x.k1 x.k2 x.a1 x.a2 x.b1 x.b2) q.wh = V at *
  obtain ⟨V1, V2⟩ := V
  unfold aggV at HE
  simp only at HE HV
  unfold aggEv
  rw [hA]
  clear hA h hn hx ba
  by_cases h0 : q.wh.length = 0
  · have d0 : ((q.wh.length : Int) == 0) = true := by simp [h0]
    have d1 : (q.wh.length == 0) = true := by simp [h0]
    rw [d1, Bool.true_or]
    clear h0 d1 HE HV
    go_enter Tryz.func81, Tryz.ntmps81
    go_wp2_with fail
    go_ret
    exact ⟨rfl, HBA.out⟩
  · have d0 : ((q.wh.length : Int) == 0) = false := beq_eq_false_iff_ne.2 (by omega)
    have d1 : (q.wh.length == 0) = false := beq_eq_false_iff_ne.2 h0
    rw [d1, Bool.false_or, ← HV.out]
    clear HV h0 d1
    generalize hr : (V1 == 2 && V2 == 1) = r
    obtain ⟨d1, d2, rfl⟩ | ⟨d1, d2, rfl⟩ | ⟨d1, rfl⟩ : ((V1 == 2) = true ∧ (V2 == 1) = true ∧ r = true) ∨ ((V1 == 2) = true ∧ (V2 == 1) = false ∧ r = false) ∨ ((V1 == 2) = false ∧ r = false) := by
      rw [← hr]
      cases h1 : (V1 == 2) <;> cases h2 : (V2 == 1) <;> simp
    all_goals
      clear hr
      go_enter Tryz.func81, Tryz.ntmps81
      go_wp2_with fail
      refine HE.out.mono ?_
      rintro e w1 ⟨rfl, hb⟩
      have HB := nxt HBA hb
      clear hb HE HBA
      go_wp2_with fail
      refine (truth_any true _).mono ?_
      rintro e w2 ⟨rfl, rfl⟩
      have HB2 := hidE (HB.out.alloc HB.out.size (.cells #[.int .i64 2, .int .i64 (if true then 1 else 0)] 26))
      clear HB
      go_wp2_with fail
      go_ret
      exact ⟨rfl, HB2.out⟩

theorem below3 (W : World) (o1 o2 o3 : Obj) : Below W.heap.size W (((W.alloc o1).alloc o2).alloc o3) := (below2 W o1 o2).alloc (by simp; omega) o3
theorem null_bt (w : World) : Calls Tryz.prog 57 #[] w fun e w' => e = .returned (.agg #[.int .i64 0, .int .i64 0]) ∧ Below w.heap.size w w' := (null_any w).mono (by
  rintro e w' ⟨rfl, rfl⟩
  exact ⟨rfl, (Below.refl _ _).alloc (Nat.le_refl _) _⟩)
set_option maxRecDepth 100000 in
set_option maxHeartbeats 1000000 in
theorem keyof_q (va vw vb : Value) (q : Qy) (ps : List (AgQ × Value)) (x : Ev) (W : World) (h : QyG W va vw vb q ps) (hn : QyN q) (hx : ∀ p ∈ evX x, okV p) :
    Calls Tryz.prog 82 #[qyV va vw vb q, aggEv x] W fun e w' => e = .returned (aggV (keyQ q x)) ∧ Below W.heap.size W w' := by
  unfold qyV
  obtain ⟨ao, cap, rfl⟩ := rowG_shape h.ag.row
  obtain ⟨a2, c2, rfl⟩ := rowG_shape h.wh
  obtain ⟨a3, c3, rfl⟩ := rowG_shape h.by_
  have ba := below3 W (.cells #[.slice ao ps.length cap, .slice a2 q.wh.length c2, .slice a3 q.bys.length c3, .int .i64 q.size, .int .i64 q.slide, .int .i64 q.delay, .int .i64 q.late] 32) (.cells #[.int .i64 x.t, .int .i64 x.k1, .int .i64 x.k2, .int .i64 x.a1, .int .i64 x.a2, .int .i64 x.b1, .int .i64 x.b2] 49) (.cells #[.int .i64 0, .int .i64 0] 26)
  have B3 := hidE (blk_alloc ((W.alloc (.cells #[.slice ao ps.length cap, .slice a2 q.wh.length c2, .slice a3 q.bys.length c3, .int .i64 q.size, .int .i64 q.slide, .int .i64 q.delay, .int .i64 q.late] 32)).alloc (.cells #[.int .i64 x.t, .int .i64 x.k1, .int .i64 x.k2, .int .i64 x.a1, .int .i64 x.a2, .int .i64 x.b1, .int .i64 x.b2] 49)) [.int .i64 0, .int .i64 0] 26)
  rw [show ((W.alloc (.cells #[.slice ao ps.length cap, .slice a2 q.wh.length c2, .slice a3 q.bys.length c3, .int .i64 q.size, .int .i64 q.slide, .int .i64 q.delay, .int .i64 q.late] 32)).alloc (.cells #[.int .i64 x.t, .int .i64 x.k1, .int .i64 x.k2, .int .i64 x.a1, .int .i64 x.a2, .int .i64 x.b1, .int .i64 x.b2] 49)).heap.size = W.heap.size + 1 + 1 from by simp] at B3
  have HE := hidE (eval_any q.bys (.slice a3 q.bys.length c3) x.t x.k1 x.k2 x.a1 x.a2 x.b1 x.b2 _ h.lb (rowG_below h.by_ ba) hn.bys hx)
  have HBA := hidE ba
  have hA : keyQ q x = if q.bys.length = 0 then (0, 0) else evL opV (evX x) q.bys := rfl
  unfold evX at *
  unfold aggE at HE
  generalize evL opV (evE x.t x.k1 x.k2 x.a1 x.a2 x.b1 x.b2) q.bys = V at *
  obtain ⟨V1, V2⟩ := V
  unfold aggV at HE
  simp only at HE
  unfold aggEv
  rw [hA]
  clear hA h hn hx ba
  by_cases h0 : q.bys.length = 0
  · rw [if_pos h0]
    clear HE
    have d0 : ((q.bys.length : Int) == 0) = true := by simp [h0]
    clear h0
    show Calls _ _ _ _ fun e w' => e = .returned (.agg #[.int .i64 0, .int .i64 0]) ∧ _
    go_enter Tryz.func82, Tryz.ntmps82
    go_wp2_with fail
    refine (null_bt _).mono ?_
    rintro e w1 ⟨rfl, hb⟩
    have KB := blk_below B3.out hb B3.out.lt
    have y0 : w1.cell? ⟨W.heap.size + 1 + 1, 0, none⟩ = some (.int .i64 0) := KB.c 0 (by simp)
    have y1 : w1.cell? ⟨W.heap.size + 1 + 1, 1, none⟩ = some (.int .i64 0) := KB.c 1 (by simp)
    have f0 := KB.fz 0
    have f1 := KB.fz 1
    have SB := blk_set (blk_set KB 0 (.int .i64 0) (by simp)) 1 (.int .i64 0) (by simp)
    have g0 : ((w1.setCell ⟨W.heap.size + 1 + 1, 0, none⟩ (.int .i64 0)).setCell ⟨W.heap.size + 1 + 1, 1, none⟩ (.int .i64 0)).cell? ⟨W.heap.size + 1 + 1, 0, none⟩ = some (.int .i64 0) := SB.c 0 (by simp)
    have g1 : ((w1.setCell ⟨W.heap.size + 1 + 1, 0, none⟩ (.int .i64 0)).setCell ⟨W.heap.size + 1 + 1, 1, none⟩ (.int .i64 0)).cell? ⟨W.heap.size + 1 + 1, 1, none⟩ = some (.int .i64 0) := SB.c 1 (by simp)
    have HB := hidE (HBA.out.trans (hb.mono HBA.out.size))
    clear hb HBA SB KB B3
    go_wp2_with fail
    exact bodyPost_ret (v := .agg #[.int .i64 0, .int .i64 0]) (by simp [results, Tryz.results82, go_sem, g0, g1]) rfl ⟨rfl, (HB.out.setCell (p := ⟨W.heap.size + 1 + 1, 0, none⟩) (by simp; omega) _).setCell (p := ⟨W.heap.size + 1 + 1, 1, none⟩) (by simp; omega) _⟩
  · rw [if_neg h0]
    have d0 : ((q.bys.length : Int) == 0) = false := beq_eq_false_iff_ne.2 (by omega)
    show Calls _ _ _ _ fun e w' => e = .returned (.agg #[.int .i64 V1, .int .i64 V2]) ∧ _
    clear h0
    go_enter Tryz.func82, Tryz.ntmps82
    go_wp2_with fail
    refine HE.out.mono ?_
    rintro e w1 ⟨rfl, hb⟩
    have KB := blk_below B3.out hb B3.out.lt
    have y0 : w1.cell? ⟨W.heap.size + 1 + 1, 0, none⟩ = some (.int .i64 0) := KB.c 0 (by simp)
    have y1 : w1.cell? ⟨W.heap.size + 1 + 1, 1, none⟩ = some (.int .i64 0) := KB.c 1 (by simp)
    have f0 := KB.fz 0
    have f1 := KB.fz 1
    have SB := blk_set (blk_set KB 0 (.int .i64 V1) (by simp)) 1 (.int .i64 V2) (by simp)
    have g0 : ((w1.setCell ⟨W.heap.size + 1 + 1, 0, none⟩ (.int .i64 V1)).setCell ⟨W.heap.size + 1 + 1, 1, none⟩ (.int .i64 V2)).cell? ⟨W.heap.size + 1 + 1, 0, none⟩ = some (.int .i64 V1) := SB.c 0 (by simp)
    have g1 : ((w1.setCell ⟨W.heap.size + 1 + 1, 0, none⟩ (.int .i64 V1)).setCell ⟨W.heap.size + 1 + 1, 1, none⟩ (.int .i64 V2)).cell? ⟨W.heap.size + 1 + 1, 1, none⟩ = some (.int .i64 V2) := SB.c 1 (by simp)
    have HB := hidE (HBA.out.trans (hb.mono HBA.out.size))
    clear hb HBA SB KB B3
    go_wp2_with fail
    exact bodyPost_ret (v := .agg #[.int .i64 V1, .int .i64 V2]) (by simp [results, Tryz.results82, go_sem, g0, g1]) rfl ⟨rfl, (HB.out.setCell (p := ⟨W.heap.size + 1 + 1, 0, none⟩) (by simp; omega) _).setCell (p := ⟨W.heap.size + 1 + 1, 1, none⟩) (by simp; omega) _⟩

set_option maxRecDepth 100000 in
set_option maxHeartbeats 2000000 in
theorem valsof_q (va vw vb : Value) (q : Qy) (ps : List (AgQ × Value)) (x : Ev) (W : World) (h : QyG W va vw vb q ps) (h4 : ps.length ≤ 4) (hn : QyN q) (hx : ∀ p ∈ evX x, okV p) :
    Calls Tryz.prog 83 #[qyV va vw vb q, aggEv x] W fun e w' => ∃ u, e = .returned u ∧ w'.ownsRow W.heap.size 26 2 u (valsQ q x).length (rowV (valsQ q x)) ∧ Below W.heap.size W w' := by
  obtain ⟨i0, hi, hz0, hz1, hz2⟩ := info_parts infoVv
  have hlen : q.aggs.length = ps.length := by rw [← h.qa]; simp
  have hkl : (valsQ q x).length = ps.length := by unfold valsQ; rw [List.length_map, hlen]
  rw [hkl]
  unfold qyV
  obtain ⟨ao, cap, rfl⟩ := rowG_shape h.ag.row
  obtain ⟨a2, c2, rfl⟩ := rowG_shape h.wh
  obtain ⟨a3, c3, rfl⟩ := rowG_shape h.by_
  have ba := below2 W (.cells #[.slice ao ps.length cap, .slice a2 q.wh.length c2, .slice a3 q.bys.length c3, .int .i64 q.size, .int .i64 q.slide, .int .i64 q.delay, .int .i64 q.late] 32) (.cells #[.int .i64 x.t, .int .i64 x.k1, .int .i64 x.k2, .int .i64 x.a1, .int .i64 x.a2, .int .i64 x.b1, .int .i64 x.b2] 49)
  have BQ := blk_below (blk_alloc W [.slice ao ps.length cap, .slice a2 q.wh.length c2, .slice a3 q.bys.length c3, .int .i64 q.size, .int .i64 q.slide, .int .i64 q.delay, .int .i64 q.late] 32) (below_alloc (W.alloc (.cells #[.slice ao ps.length cap, .slice a2 q.wh.length c2, .slice a3 q.bys.length c3, .int .i64 q.size, .int .i64 q.slide, .int .i64 q.delay, .int .i64 q.late] 32)) (.cells #[.int .i64 x.t, .int .i64 x.k1, .int .i64 x.k2, .int .i64 x.a1, .int .i64 x.a2, .int .i64 x.b1, .int .i64 x.b2] 49)) (by simp)
  have BX := blk_alloc (W.alloc (.cells #[.slice ao ps.length cap, .slice a2 q.wh.length c2, .slice a3 q.bys.length c3, .int .i64 q.size, .int .i64 q.slide, .int .i64 q.delay, .int .i64 q.late] 32)) [.int .i64 x.t, .int .i64 x.k1, .int .i64 x.k2, .int .i64 x.a1, .int .i64 x.a2, .int .i64 x.b1, .int .i64 x.b2] 49
  rw [show (W.alloc (.cells #[.slice ao ps.length cap, .slice a2 q.wh.length c2, .slice a3 q.bys.length c3, .int .i64 q.size, .int .i64 q.slide, .int .i64 q.delay, .int .i64 q.late] 32)).heap.size = W.heap.size + 1 from by simp] at BX
  have HG := hidE (qyG_below h ba)
  have HQA := hidE h.qa
  have HKL := hidE hkl
  have HBA := hidE ba
  have HN := hidE hn.ag
  have HX := hidE hx
  have HK : Hid (∀ m (hm : m < ps.length), (valsQ q x)[m]? = some (valQ x ps[m].1)) := fun m hm => by
    unfold valsQ
    rw [← HQA.out]
    simp [hm]
  generalize valsQ q x = K at *
  unfold aggEv
  clear hlen h hkl hn hx
  go_enter Tryz.func83, Tryz.ntmps83
  go_wp2_with (at_make; go_must (refine wpList_make_full _ rfl _ _ 61 rfl W.heap.size 26 i0 (.agg #[.int .i64 0, .int .i64 0]) 2 Tryz.underlying61 hi hz0 hz1 .i64 .i64 _ _ ps.length rfl rfl rfl rfl (by rw [hz2]; omega) (by show _ ≤ 2 ^ 63 - 1; omega) (by simp; omega) ?_))
  intro w1 ho hg
  have hsz : ((W.alloc (.cells #[.slice ao ps.length cap, .slice a2 q.wh.length c2, .slice a3 q.bys.length c3, .int .i64 q.size, .int .i64 q.slide, .int .i64 q.delay, .int .i64 q.late] 32)).alloc (.cells #[.int .i64 x.t, .int .i64 x.k1, .int .i64 x.k2, .int .i64 x.a1, .int .i64 x.a2, .int .i64 x.b1, .int .i64 x.b2] 49)).heap.size = W.heap.size + 1 + 1 := by simp
  have hb1 : Below ((W.alloc (.cells #[.slice ao ps.length cap, .slice a2 q.wh.length c2, .slice a3 q.bys.length c3, .int .i64 q.size, .int .i64 q.slide, .int .i64 q.delay, .int .i64 q.late] 32)).alloc (.cells #[.int .i64 x.t, .int .i64 x.k1, .int .i64 x.k2, .int .i64 x.a1, .int .i64 x.a2, .int .i64 x.b1, .int .i64 x.b2] 49)).heap.size ((W.alloc (.cells #[.slice ao ps.length cap, .slice a2 q.wh.length c2, .slice a3 q.bys.length c3, .int .i64 q.size, .int .i64 q.slide, .int .i64 q.delay, .int .i64 q.late] 32)).alloc (.cells #[.int .i64 x.t, .int .i64 x.k1, .int .i64 x.k2, .int .i64 x.a1, .int .i64 x.a2, .int .i64 x.b1, .int .i64 x.b2] 49)) w1 := (Below.refl _ _).grown hg (Nat.le_refl _) (fun k hk => by cases hk)
  have lq := BQ.lt
  have c0 : w1.cell? ⟨W.heap.size, 0, none⟩ = some (.slice ao ps.length cap) := (blk_below BQ hb1 BQ.lt).c 0 (by simp)
  have ho' : w1.ownsRow W.heap.size 26 2 (.slice (some ⟨W.heap.size + 1 + 1, 0, none⟩) ps.length ps.length) ps.length (rowV (List.replicate ps.length (0, 0))) := by
    rw [← made_vals]
    exact ho
  have HO := hidE ho'
  have HB := hidE hb1
  have HSZ := hidE hsz
  have HBX := hidE BX
  clear hb1 ho ho' hg ba BQ BX
  go_wp2_with fail
  clear c0
  generalize ((W.alloc (.cells #[.slice ao ps.length cap, .slice a2 q.wh.length c2, .slice a3 q.bys.length c3, .int .i64 q.size, .int .i64 q.slide, .int .i64 q.delay, .int .i64 q.late] 32)).alloc (.cells #[.int .i64 x.t, .int .i64 x.k1, .int .i64 x.k2, .int .i64 x.a1, .int .i64 x.a2, .int .i64 x.b1, .int .i64 x.b2] 49)) = w0 at *
  go_loopw [15] (fun i wr => ∃ (m : Nat) (L : List V2), m ≤ ps.length ∧ L.length = ps.length ∧ i = .int .i64 m ∧ Hid (∀ j, j < m → L[j]? = K[j]?) ∧ Hid (∀ j, m ≤ j → j < ps.length → L[j]? = some (0, 0)) ∧ Hid (wr.ownsRow W.heap.size 26 2 (.slice (some ⟨W.heap.size + 1 + 1, 0, none⟩) ps.length ps.length) ps.length (rowV L)) ∧ Hid (Below w0.heap.size w0 wr)) (fun i _ => ps.length - (intOf i).toNat)
  case atStart => exact ⟨0, List.replicate ps.length (0, 0), Nat.zero_le _, by simp, rfl, fun j hj => absurd hj (by omega), fun j _ hj => by simp [hj], HO, HB⟩
  case round =>
    clear HO HB
    obtain ⟨m, L, hm, hL, rfl, HM, HZ, HO, HB⟩ := hrel
    by_cases hlt : m < ps.length
    · have HGr := hidE (qyG_below HG.out HB.out)
      obtain ⟨g, off, hao, hcell, q1, q2, lg⟩ := rowOf_val cellsAg_len HGr.out.ag.row m hlt
      subst hao
      have hnd := HGr.out.ag.nds ps[m] (List.getElem_mem hlt)
      have HKM := hidE (HK.out m hlt)
      have hna := HN.out ps[m].1 (by rw [← HQA.out]; exact List.mem_map_of_mem (List.getElem_mem hlt))
      generalize ps[m] = p at *
      obtain ⟨⟨k, l⟩, v⟩ := p
      have y0 := hcell 0 (by omega)
      have y1 := hcell 1 (by omega)
      have y0 : wr.cell? ⟨g, off + m * 2, none⟩ = some (.int .i64 k) := y0
      have y1 : wr.cell? ⟨g, off + m * 2 + 1, none⟩ = some v := y1
      have hsh : ∃ a9 n9 c9, v = .slice a9 n9 c9 := by obtain ⟨a9, c9, e9⟩ := rowG_shape hnd.1; exact ⟨_, _, _, e9⟩
      obtain ⟨a9, n9, c9, rfl⟩ := hsh
      have ba2 := below_alloc wr (.cells #[.int .i64 k, .slice a9 n9 c9] 37)
      have HO2 := hidE (own_keep HO.out ba2 (Nat.le_refl _))
      have HB2 := hidE (HB.out.trans (ba2.mono HB.out.size))
      have HLL := hidE hL
      unfold maxLen at q2
      by_cases hk : k = 1
      · subst hk
        have HV : Hid (L[m]? = K[m]?) := by
          show _ = _
          rw [HKM.out, HZ.out m (Nat.le_refl _) hlt]
          rfl
        clear hcell hnd ba2 hL hna HKM
        go_wp2_with fail
        go_roundw
        case rel => exact ⟨m + 1, L, by omega, HLL.out, by go_num, fun j hj => by
            by_cases h9 : j = m
            · rw [h9]; exact HV.out
            · exact HM.out j (by omega), fun j h1 h2 => HZ.out j (by omega) h2, HO2, HB2⟩
        case measure => simp [intOf]; omega
      · have dk : (k == 1) = false := beq_eq_false_iff_ne.2 hk
        have HE := hidE (eval_any l (.slice a9 n9 c9) x.t x.k1 x.k2 x.a1 x.a2 x.b1 x.b2 _ hnd.2 (rowG_below hnd.1 ba2) hna HX.out)
        have eV : valQ x ⟨k, l⟩ = evL opV (evE x.t x.k1 x.k2 x.a1 x.a2 x.b1 x.b2) l := by unfold valQ evX; rw [if_neg hk]
        rw [eV] at HKM
        clear eV
        unfold aggE at HE
        generalize evL opV (evE x.t x.k1 x.k2 x.a1 x.a2 x.b1 x.b2) l = V at *
        obtain ⟨V1, V2⟩ := V
        unfold aggV at HE
        simp only at HE
        have BXr := blk_below HBX.out HB.out HBX.out.lt
        have x0 : wr.cell? ⟨W.heap.size + 1, 0, none⟩ = some (.int .i64 x.t) := BXr.c 0 (by simp)
        have x1 : wr.cell? ⟨W.heap.size + 1, 1, none⟩ = some (.int .i64 x.k1) := BXr.c 1 (by simp)
        have x2 : wr.cell? ⟨W.heap.size + 1, 2, none⟩ = some (.int .i64 x.k2) := BXr.c 2 (by simp)
        have x3 : wr.cell? ⟨W.heap.size + 1, 3, none⟩ = some (.int .i64 x.a1) := BXr.c 3 (by simp)
        have x4 : wr.cell? ⟨W.heap.size + 1, 4, none⟩ = some (.int .i64 x.a2) := BXr.c 4 (by simp)
        have x5 : wr.cell? ⟨W.heap.size + 1, 5, none⟩ = some (.int .i64 x.b1) := BXr.c 5 (by simp)
        have x6 : wr.cell? ⟨W.heap.size + 1, 6, none⟩ = some (.int .i64 x.b2) := BXr.c 6 (by simp)
        have lx := BXr.lt
        clear hcell hnd ba2 hL hna BXr
        go_wp2_with fail
        refine HE.out.mono ?_
        rintro e w2 ⟨rfl, hb⟩
        have HO3 := hidE (own_keep HO2.out hb (Nat.le_refl _))
        have HB3 := hidE (HB2.out.trans (hb.mono HB2.out.size))
        clear hb HO2 HB2 HO HB HE x0 x1 x2 x3 x4 x5 x6 y0 y1
        have y0 := HO3.out.cellAt (m * 2) (by omega)
        have y1 := HO3.out.cellAt (m * 2 + 1) (by omega)
        have hrl : (rowV L).length = ps.length * 2 := by rw [rowV_len, HLL.out]
        rw [List.getElem?_eq_getElem (by omega)] at y0 y1
        generalize (rowV L)[m * 2] = r0 at y0
        generalize (rowV L)[m * 2 + 1] = r1 at y1
        have z0 := owns_thawG2 HO3.out (m * 2)
        have z1 := owns_thawG2 HO3.out (m * 2 + 1)
        have HO4 := hidE (owns_setG (owns_setG HO3.out (m * 2) (.int .i64 V1)) (m * 2 + 1) (.int .i64 V2))
        rw [rowV_set L m (V1, V2) (by rw [HLL.out]; omega)] at HO4
        have HB4 := hidE ((HB3.out.setCell (p := ⟨W.heap.size + 1 + 1, m * 2, none⟩) (by rw [HSZ.out]; exact Nat.le_refl _) (.int .i64 V1)).setCell (p := ⟨W.heap.size + 1 + 1, m * 2 + 1, none⟩) (by rw [HSZ.out]; exact Nat.le_refl _) (.int .i64 V2))
        clear hrl HO3 HB3
        go_wp2_with fail
        go_roundw
        case rel => exact ⟨m + 1, L.set m (V1, V2), by omega, by simpa using HLL.out, by go_num, fun j hj => by
            by_cases h9 : j = m
            · subst h9
              rw [List.getElem?_set_self (by rw [HLL.out]; omega), HKM.out]
            · rw [List.getElem?_set_ne (fun e => h9 e.symm)]
              exact HM.out j (by omega), fun j h1 h2 => by
            rw [List.getElem?_set_ne (by omega)]
            exact HZ.out j (by omega) h2, HO4, HB4⟩
        case measure => simp [intOf]; omega
    · have hme : m = ps.length := by omega
      subst hme
      have e : L = K := pre_is (by rw [HKL.out]; exact hL) (fun j hj => HM.out j (by rw [HKL.out] at hj; exact hj))
      subst e
      go_wp2_with fail
      go_ret
      exact ⟨_, rfl, HO.out, HBA.out.trans (HB.out.mono HBA.out.size)⟩

end Go.Proofs.YtaomljdbndajgaaGreatDoor
/- The law engine.Take's key and values, over this seat's translation. Conditions: as named. -/
namespace Go.Proofs.YtaomljdbndajgaaGreatDoor
open Go.ChangeShapes Go.WideShapes Go.ChangeAt Go.RowKit
set_option linter.unusedVariables false
set_option linter.unusedSimpArgs false

set_option maxRecDepth 100000 in
/-- a list of so many, by its elements -/
theorem listed58 (t : List Value) (h : t.length = 58) : ∃ f : Nat → Value, t = f 0 :: f 1 :: f 2 :: f 3 :: f 4 :: f 5 :: f 6 :: f 7 :: f 8 :: f 9 :: f 10 :: f 11 :: f 12 :: f 13 :: f 14 :: f 15 :: f 16 :: f 17 :: f 18 :: f 19 :: f 20 :: f 21 :: f 22 :: f 23 :: f 24 :: f 25 :: f 26 :: f 27 :: f 28 :: f 29 :: f 30 :: f 31 :: f 32 :: f 33 :: f 34 :: f 35 :: f 36 :: f 37 :: f 38 :: f 39 :: f 40 :: f 41 :: f 42 :: f 43 :: f 44 :: f 45 :: f 46 :: f 47 :: f 48 :: f 49 :: f 50 :: f 51 :: f 52 :: f 53 :: f 54 :: f 55 :: f 56 :: f 57 :: [] ∧ ∀ i, i < 58 → t[i]? = some (f i) := by
  have e1 : t = (List.range 58).map (fun i => t.getD i undef) := by
    apply List.ext_getElem
    · simp [h]
    · intro i h1 h2
      simp [List.getD, h1]
  refine ⟨fun i => t.getD i undef, ?_, fun i hi => ?_⟩
  · have e2 : ∀ g : Nat → Value, (List.range 58).map g = g 0 :: g 1 :: g 2 :: g 3 :: g 4 :: g 5 :: g 6 :: g 7 :: g 8 :: g 9 :: g 10 :: g 11 :: g 12 :: g 13 :: g 14 :: g 15 :: g 16 :: g 17 :: g 18 :: g 19 :: g 20 :: g 21 :: g 22 :: g 23 :: g 24 :: g 25 :: g 26 :: g 27 :: g 28 :: g 29 :: g 30 :: g 31 :: g 32 :: g 33 :: g 34 :: g 35 :: g 36 :: g 37 :: g 38 :: g 39 :: g 40 :: g 41 :: g 42 :: g 43 :: g 44 :: g 45 :: g 46 :: g 47 :: g 48 :: g 49 :: g 50 :: g 51 :: g 52 :: g 53 :: g 54 :: g 55 :: g 56 :: g 57 :: [] := fun _ => rfl
    exact e1.trans (e2 _)
  · simp [List.getD, h, hi]
set_option maxRecDepth 100000 in
set_option maxHeartbeats 8000000 in
theorem take_r3 (Q : Exit → Act → World → Prop) (C3 : Code) (h3 : rgn 3 (Tryz.f47.body.getD .skip) = some C3) (t : List Value) (qb xb : Nat) (q : Qy) (ps : List (AgQ × Value)) (x : Ev) (ao a2 a3 : Option Addr) (cap c2 c3 : Nat) (ka kc upto : Int) (known : Bool) (pv : Value) (w : World) (ht : t.length = 58) (k2 : t[2]? = some (.int .i64 upto)) (k3 : t[3]? = some (.bool known)) (k4 : t[4]? = some (pv)) (k5 : t[5]? = some (.pointer (some ⟨qb, 0, none⟩))) (k6 : t[6]? = some (.pointer (some ⟨xb, 0, none⟩))) (k10 : t[10]? = some (.int .i64 0))
    (BQ : BlkAt w qb [Value.slice ao ps.length cap, Value.slice a2 q.wh.length c2, Value.slice a3 q.bys.length c3, Value.int .i64 q.size, Value.int .i64 q.slide, Value.int .i64 q.delay, Value.int .i64 q.late]) (BX : BlkAt w xb [Value.int .i64 x.t, Value.int .i64 x.k1, Value.int .i64 x.k2, Value.int .i64 x.a1, Value.int .i64 x.a2, Value.int .i64 x.b1, Value.int .i64 x.b2]) (h : QyG w (.slice ao ps.length cap) (.slice a2 q.wh.length c2) (.slice a3 q.bys.length c3) q ps) (h4 : ps.length ≤ 4) (hn : QyN q) (hx : ∀ p ∈ evX x, okV p) (hk : keyQ q x = (ka, kc))
    (hpan : ∀ c (a : Act) o v w, Q (.panic c) (a.put o v) w → Q (.panic c) a w)
    (hQ : ∀ (t' : List Value) (kb : Nat) (au : Option Addr) (cu : Nat) (w' : World), t'.length = 58 → t'[2]? = some (.int .i64 upto) → t'[3]? = some (.bool known) → t'[4]? = some (pv) → t'[5]? = some (.pointer (some ⟨qb, 0, none⟩)) → t'[6]? = some (.pointer (some ⟨xb, 0, none⟩)) → t'[10]? = some (.int .i64 0) → t'[11]? = some (.pointer (some ⟨kb, 0, none⟩)) → t'[12]? = some (.slice au (valsQ q x).length cu) → BlkAt w' kb [.int .i64 ka, .int .i64 kc] ∧ w.heap.size ≤ kb ∧ w'.ownsRow w.heap.size 26 2 (.slice au (valsQ q x).length cu) (valsQ q x).length (rowV (valsQ q x)) ∧ Below w.heap.size w w' → Q .normal { tmps := t'.toArray, defers := [] } w') :
    Code.wp Tryz.prog C3 Q { tmps := t.toArray, defers := [] } w := by
  have HQ := hidE hQ
  have HPN := hidE hpan
  have dd : Below w.heap.size w ({ w with drawn := w.drawn + 1 } : World) := (Below.refl _ _).drew
  have hS := dd
  have KO : Hid (∀ w', Below w.heap.size w w' → Calls Tryz.prog 82 #[.agg #[Value.slice ao ps.length cap, Value.slice a2 q.wh.length c2, Value.slice a3 q.bys.length c3, Value.int .i64 q.size, Value.int .i64 q.slide, Value.int .i64 q.delay, Value.int .i64 q.late], .agg #[Value.int .i64 x.t, Value.int .i64 x.k1, Value.int .i64 x.k2, Value.int .i64 x.a1, Value.int .i64 x.a2, Value.int .i64 x.b1, Value.int .i64 x.b2]] w' fun e w'' => e = .returned (.agg #[.int .i64 ka, .int .i64 kc]) ∧ Below w'.heap.size w' w'') := fun w' hb => by
    have := keyof_q _ _ _ q ps x w' (qyG_below h hb) hn hx
    rw [hk] at this
    exact this
  have VO : Hid (∀ w', Below w.heap.size w w' → Calls Tryz.prog 83 #[.agg #[Value.slice ao ps.length cap, Value.slice a2 q.wh.length c2, Value.slice a3 q.bys.length c3, Value.int .i64 q.size, Value.int .i64 q.slide, Value.int .i64 q.delay, Value.int .i64 q.late], .agg #[Value.int .i64 x.t, Value.int .i64 x.k1, Value.int .i64 x.k2, Value.int .i64 x.a1, Value.int .i64 x.a2, Value.int .i64 x.b1, Value.int .i64 x.b2]] w' fun e w'' => ∃ u, e = .returned u ∧ w''.ownsRow w'.heap.size 26 2 u (valsQ q x).length (rowV (valsQ q x)) ∧ Below w'.heap.size w' w'') := fun w' hb => valsof_q _ _ _ q ps x w' (qyG_below h hb) h4 hn hx
  obtain ⟨VS, hVS⟩ : ∃ VS, valsQ q x = VS := ⟨_, rfl⟩
  obtain ⟨NV, hNV⟩ : ∃ NV, VS.length = NV := ⟨_, rfl⟩
  rw [hVS, hNV] at VO
  have BQ := hidE BQ
  have BX := hidE BX
  clear hQ hpan h dd h4 hn hx hk
  obtain ⟨f, hf, hi⟩ := listed58 t ht
  have e2 := some_at (hi 2 (by decide)) k2
  have e3 := some_at (hi 3 (by decide)) k3
  have e4 := some_at (hi 4 (by decide)) k4
  have e5 := some_at (hi 5 (by decide)) k5
  have e6 := some_at (hi 6 (by decide)) k6
  have e10 := some_at (hi 10 (by decide)) k10
  rw [e2, e3, e4, e5, e6, e10] at hf
  clear hi ht k2 e2 k3 e3 k4 e4 k5 e5 k6 e6 k10 e10
  subst hf
  unfold Tryz.f47 at h3
  simp [rgn] at h3
  subst h3
  refine wp_region_held (S := fun w' => Below w.heap.size w w') (by kernel_rfl) ?_
  generalize ({ w with drawn := w.drawn + 1 } : World) = wd at *
  refine held_take (i := 0) (v := .agg #[Value.slice ao ps.length cap, Value.slice a2 q.wh.length c2, Value.slice a3 q.bys.length c3, Value.int .i64 q.size, Value.int .i64 q.slide, Value.int .i64 q.delay, Value.int .i64 q.late]) (L := #[true, false, false, false, false, false, false, false, false]) rfl (by kernel_rfl) (by kernel_rfl) (by kernel_rfl) (fun c a w h => HPN.out c a _ _ w h) (Or.inl ⟨by kernel_rfl, fun wq hq => by have K := blk_below BQ.out hq BQ.out.lt; have q0 : wq.cell? ⟨_, 0, none⟩ = some (Value.slice ao ps.length cap) := K.c 0 (by simp); have q1 : wq.cell? ⟨_, 1, none⟩ = some (Value.slice a2 q.wh.length c2) := K.c 1 (by simp); have q2 : wq.cell? ⟨_, 2, none⟩ = some (Value.slice a3 q.bys.length c3) := K.c 2 (by simp); have q3 : wq.cell? ⟨_, 3, none⟩ = some (Value.int .i64 q.size) := K.c 3 (by simp); have q4 : wq.cell? ⟨_, 4, none⟩ = some (Value.int .i64 q.slide) := K.c 4 (by simp); have q5 : wq.cell? ⟨_, 5, none⟩ = some (Value.int .i64 q.delay) := K.c 5 (by simp); have q6 : wq.cell? ⟨_, 6, none⟩ = some (Value.int .i64 q.late) := K.c 6 (by simp); clear K; go_simp⟩) hS (by kernel_rfl) ?_
  refine held_take (i := 1) (v := .agg #[Value.int .i64 x.t, Value.int .i64 x.k1, Value.int .i64 x.k2, Value.int .i64 x.a1, Value.int .i64 x.a2, Value.int .i64 x.b1, Value.int .i64 x.b2]) (L := #[true, true, false, false, false, false, false, false, false]) rfl (by kernel_rfl) (by kernel_rfl) (by kernel_rfl) (fun c a w h => HPN.out c a _ _ w h) (Or.inl ⟨by kernel_rfl, fun wq hq => by have K := blk_below BX.out hq BX.out.lt; have q0 : wq.cell? ⟨_, 0, none⟩ = some (Value.int .i64 x.t) := K.c 0 (by simp); have q1 : wq.cell? ⟨_, 1, none⟩ = some (Value.int .i64 x.k1) := K.c 1 (by simp); have q2 : wq.cell? ⟨_, 2, none⟩ = some (Value.int .i64 x.k2) := K.c 2 (by simp); have q3 : wq.cell? ⟨_, 3, none⟩ = some (Value.int .i64 x.a1) := K.c 3 (by simp); have q4 : wq.cell? ⟨_, 4, none⟩ = some (Value.int .i64 x.a2) := K.c 4 (by simp); have q5 : wq.cell? ⟨_, 5, none⟩ = some (Value.int .i64 x.b1) := K.c 5 (by simp); have q6 : wq.cell? ⟨_, 6, none⟩ = some (Value.int .i64 x.b2) := K.c 6 (by simp); clear K; go_simp⟩) hS (by kernel_rfl) ?_
  refine held_take (i := 3) (v := .agg #[Value.slice ao ps.length cap, Value.slice a2 q.wh.length c2, Value.slice a3 q.bys.length c3, Value.int .i64 q.size, Value.int .i64 q.slide, Value.int .i64 q.delay, Value.int .i64 q.late]) (L := #[true, true, false, true, false, false, false, false, false]) rfl (by kernel_rfl) (by kernel_rfl) (by kernel_rfl) (fun c a w h => HPN.out c a _ _ w h) (Or.inl ⟨by kernel_rfl, fun wq hq => by have K := blk_below BQ.out hq BQ.out.lt; have q0 : wq.cell? ⟨_, 0, none⟩ = some (Value.slice ao ps.length cap) := K.c 0 (by simp); have q1 : wq.cell? ⟨_, 1, none⟩ = some (Value.slice a2 q.wh.length c2) := K.c 1 (by simp); have q2 : wq.cell? ⟨_, 2, none⟩ = some (Value.slice a3 q.bys.length c3) := K.c 2 (by simp); have q3 : wq.cell? ⟨_, 3, none⟩ = some (Value.int .i64 q.size) := K.c 3 (by simp); have q4 : wq.cell? ⟨_, 4, none⟩ = some (Value.int .i64 q.slide) := K.c 4 (by simp); have q5 : wq.cell? ⟨_, 5, none⟩ = some (Value.int .i64 q.delay) := K.c 5 (by simp); have q6 : wq.cell? ⟨_, 6, none⟩ = some (Value.int .i64 q.late) := K.c 6 (by simp); clear K; go_simp⟩) hS (by kernel_rfl) ?_
  refine held_take (i := 4) (v := .agg #[Value.int .i64 x.t, Value.int .i64 x.k1, Value.int .i64 x.k2, Value.int .i64 x.a1, Value.int .i64 x.a2, Value.int .i64 x.b1, Value.int .i64 x.b2]) (L := #[true, true, false, true, true, false, false, false, false]) rfl (by kernel_rfl) (by kernel_rfl) (by kernel_rfl) (fun c a w h => HPN.out c a _ _ w h) (Or.inl ⟨by kernel_rfl, fun wq hq => by have K := blk_below BX.out hq BX.out.lt; have q0 : wq.cell? ⟨_, 0, none⟩ = some (Value.int .i64 x.t) := K.c 0 (by simp); have q1 : wq.cell? ⟨_, 1, none⟩ = some (Value.int .i64 x.k1) := K.c 1 (by simp); have q2 : wq.cell? ⟨_, 2, none⟩ = some (Value.int .i64 x.k2) := K.c 2 (by simp); have q3 : wq.cell? ⟨_, 3, none⟩ = some (Value.int .i64 x.a1) := K.c 3 (by simp); have q4 : wq.cell? ⟨_, 4, none⟩ = some (Value.int .i64 x.a2) := K.c 4 (by simp); have q5 : wq.cell? ⟨_, 5, none⟩ = some (Value.int .i64 x.b1) := K.c 5 (by simp); have q6 : wq.cell? ⟨_, 6, none⟩ = some (Value.int .i64 x.b2) := K.c 6 (by simp); clear K; go_simp⟩) hS (by kernel_rfl) ?_
  refine held_two (i := 2) (j := 6) (Li := #[true, true, true, true, true, false, false, false, false]) (Lj := #[true, true, false, true, true, false, true, false, false]) (by kernel_rfl) rfl rfl (by kernel_rfl) (by kernel_rfl) (by kernel_rfl) (by kernel_rfl) ?_ ?_
  · intro K' hK
    go_simp
    refine (KO.out _ hS).mono ?_
    rintro e w1 ⟨rfl, hb⟩
    have hS1 := hS.trans (hb.mono hS.size)
    refine hK _ _ ⟨hS1, ?_⟩
    clear hK hb
    refine held_two (i := 5) (j := 6) (Li := #[true, true, true, true, true, true, false, false, false]) (Lj := #[true, true, true, true, true, false, true, false, false]) (by kernel_rfl) rfl rfl (by kernel_rfl) (by kernel_rfl) (by kernel_rfl) (by kernel_rfl) ?_ ?_
    · intro K' hK
      go_simp
      refine (VO.out _ hS1).mono ?_
      rintro e w2 ⟨u, rfl, ho, hb⟩
      have hS2 := hS1.trans (hb.mono hS1.size)
      obtain ⟨au, cu, rfl⟩ := owns_shapeE ho
      have HO0 := hidE ho
      have hlt := fun k e => (own_at ho k e).2
      have HLT := hidE hlt
      refine hK _ _ ⟨hS2, ?_⟩
      clear hK hb ho hlt
      refine held_go (i := 6) (L := #[true, true, true, true, true, true, true, false, false]) (by kernel_rfl) rfl (by kernel_rfl) (by kernel_rfl) ?_
      intro K' hK
      have BZ := hidE (blk_alloc w2 [.int .i64 0, .int .i64 0] 26)
      have hgs : Hid (w.heap.size ≤ w2.heap.size) := hS2.size
      have hS3 := hS2.alloc hS2.size (.cells #[.int .i64 0, .int .i64 0] 26)
      have hal := hidE (below_alloc w2 (.cells #[.int .i64 0, .int .i64 0] 26))
      go_simp
      refine hK _ _ ⟨hS3, ?_⟩
      clear hK
      have HO := hidE (owns_baseG (base' := w.heap.size) (own_keep HO0.out hal.out (Nat.le_refl _)) hS1.size)
      have NE : Hid ((Value.slice au NV cu).ownBlock ≠ some w2.heap.size) := fun e => by have := HLT.out _ e; omega
      generalize hg : w2.heap.size = kb at *
      have hS3' : Hid (Below w.heap.size w (w2.alloc (.cells #[.int .i64 0, .int .i64 0] 26))) := hS3
      generalize w2.alloc (.cells #[.int .i64 0, .int .i64 0] 26) = w3 at *
      have hS3 := hS3'.out
      clear hg HLT HO0 hal hS2
      have f0 := BZ.out.fz 0
      have f1 := BZ.out.fz 1
      have z0 : w3.cell? ⟨kb, 0, none⟩ = some (.int .i64 0) := BZ.out.c 0 (by simp)
      have z1 : w3.cell? ⟨kb, 1, none⟩ = some (.int .i64 0) := BZ.out.c 1 (by simp)
      have B4 := hidE (blk_set (blk_set BZ.out 0 (.int .i64 ka) (by simp)) 1 (.int .i64 kc) (by simp))
      have HO4 := hidE (ownsRow_setCell_other (ownsRow_setCell_other HO.out (a := ⟨kb, 0, none⟩) NE.out (.int .i64 ka)) (a := ⟨kb, 1, none⟩) NE.out (.int .i64 kc))
      have hSz := ((hS3.setCell (p := ⟨kb, 0, none⟩) hgs.out (.int .i64 ka)).setCell (p := ⟨kb, 1, none⟩) hgs.out (.int .i64 kc))
      refine held_go (i := 7) (L := #[true, true, true, true, true, true, true, true, false]) (by kernel_rfl) rfl (by kernel_rfl) (by kernel_rfl) ?_
      intro K' hK
      go_simp
      refine hK _ _ ⟨hSz, ?_⟩
      clear hK
      refine held_go (i := 8) (L := #[true, true, true, true, true, true, true, true, true]) (by kernel_rfl) rfl (by kernel_rfl) (by kernel_rfl) ?_
      intro K' hK
      go_simp
      refine hK _ _ ⟨hSz, ?_⟩
      clear hK
      subst hNV hVS
      refine wpAnyH_done (by kernel_rfl) ?_ _
      exact HQ.out _ kb au cu _ rfl rfl rfl rfl rfl rfl rfl rfl rfl ⟨by simpa using B4.out, hgs.out, HO4.out, hSz⟩
    · intro K' hK
      have BZ := hidE (blk_alloc w1 [.int .i64 0, .int .i64 0] 26)
      have hgs : Hid (w.heap.size ≤ w1.heap.size) := hS1.size
      have hS2 := hS1.alloc hS1.size (.cells #[.int .i64 0, .int .i64 0] 26)
      have hal := hidE (below_alloc w1 (.cells #[.int .i64 0, .int .i64 0] 26))
      go_simp
      refine hK _ _ ⟨hS2, ?_⟩
      clear hK
      generalize hg : w1.heap.size = kb at *
      have hS2' : Hid (Below w.heap.size w (w1.alloc (.cells #[.int .i64 0, .int .i64 0] 26))) := hS2
      generalize w1.alloc (.cells #[.int .i64 0, .int .i64 0] 26) = w2 at *
      have hS2 := hS2'.out
      have hkb : kb < w2.heap.size := BZ.out.lt
      refine held_go (i := 5) (L := #[true, true, true, true, true, true, true, false, false]) (by kernel_rfl) rfl (by kernel_rfl) (by kernel_rfl) ?_
      intro K' hK
      go_simp
      refine (VO.out _ hS2).mono ?_
      rintro e w3 ⟨u, rfl, ho, hb⟩
      have hS3 := hS2.trans (hb.mono hS2.size)
      obtain ⟨au, cu, rfl⟩ := owns_shapeE ho
      have HO := hidE (owns_baseG (base' := w.heap.size) ho hS2.size)
      have NE : Hid ((Value.slice au NV cu).ownBlock ≠ some kb) := fun e => by have := (own_at ho _ e).1; omega
      have BZ := hidE (blk_below BZ.out hb BZ.out.lt)
      refine hK _ _ ⟨hS3, ?_⟩
      clear hK hb ho
      clear hg hal hkb
      have f0 := BZ.out.fz 0
      have f1 := BZ.out.fz 1
      have z0 : w3.cell? ⟨kb, 0, none⟩ = some (.int .i64 0) := BZ.out.c 0 (by simp)
      have z1 : w3.cell? ⟨kb, 1, none⟩ = some (.int .i64 0) := BZ.out.c 1 (by simp)
      have B4 := hidE (blk_set (blk_set BZ.out 0 (.int .i64 ka) (by simp)) 1 (.int .i64 kc) (by simp))
      have HO4 := hidE (ownsRow_setCell_other (ownsRow_setCell_other HO.out (a := ⟨kb, 0, none⟩) NE.out (.int .i64 ka)) (a := ⟨kb, 1, none⟩) NE.out (.int .i64 kc))
      have hSz := ((hS3.setCell (p := ⟨kb, 0, none⟩) hgs.out (.int .i64 ka)).setCell (p := ⟨kb, 1, none⟩) hgs.out (.int .i64 kc))
      refine held_go (i := 7) (L := #[true, true, true, true, true, true, true, true, false]) (by kernel_rfl) rfl (by kernel_rfl) (by kernel_rfl) ?_
      intro K' hK
      go_simp
      refine hK _ _ ⟨hSz, ?_⟩
      clear hK
      refine held_go (i := 8) (L := #[true, true, true, true, true, true, true, true, true]) (by kernel_rfl) rfl (by kernel_rfl) (by kernel_rfl) ?_
      intro K' hK
      go_simp
      refine hK _ _ ⟨hSz, ?_⟩
      clear hK
      subst hNV hVS
      refine wpAnyH_done (by kernel_rfl) ?_ _
      exact HQ.out _ kb au cu _ rfl rfl rfl rfl rfl rfl rfl rfl rfl ⟨by simpa using B4.out, hgs.out, HO4.out, hSz⟩
  · intro K' hK
    have BZ := hidE (blk_alloc wd [.int .i64 0, .int .i64 0] 26)
    have hgs : Hid (w.heap.size ≤ wd.heap.size) := hS.size
    have hS1 := hS.alloc hS.size (.cells #[.int .i64 0, .int .i64 0] 26)
    have hal := hidE (below_alloc wd (.cells #[.int .i64 0, .int .i64 0] 26))
    go_simp
    refine hK _ _ ⟨hS1, ?_⟩
    clear hK
    generalize hg : wd.heap.size = kb at *
    have hS1' : Hid (Below w.heap.size w (wd.alloc (.cells #[.int .i64 0, .int .i64 0] 26))) := hS1
    generalize wd.alloc (.cells #[.int .i64 0, .int .i64 0] 26) = w1 at *
    have hS1 := hS1'.out
    have hkb : kb < w1.heap.size := BZ.out.lt
    refine held_go (i := 2) (L := #[true, true, true, true, true, false, true, false, false]) (by kernel_rfl) rfl (by kernel_rfl) (by kernel_rfl) ?_
    intro K' hK
    go_simp
    refine (KO.out _ hS1).mono ?_
    rintro e w2 ⟨rfl, hb⟩
    have hS2 := hS1.trans (hb.mono hS1.size)
    have BZ := hidE (blk_below BZ.out hb BZ.out.lt)
    have hkb2 : kb < w2.heap.size := BZ.out.lt
    refine hK _ _ ⟨hS2, ?_⟩
    clear hK hb
    refine held_go (i := 5) (L := #[true, true, true, true, true, true, true, false, false]) (by kernel_rfl) rfl (by kernel_rfl) (by kernel_rfl) ?_
    intro K' hK
    go_simp
    refine (VO.out _ hS2).mono ?_
    rintro e w3 ⟨u, rfl, ho, hb⟩
    have hS3 := hS2.trans (hb.mono hS2.size)
    obtain ⟨au, cu, rfl⟩ := owns_shapeE ho
    have HO := hidE (owns_baseG (base' := w.heap.size) ho hS2.size)
    have NE : Hid ((Value.slice au NV cu).ownBlock ≠ some kb) := fun e => by have := (own_at ho _ e).1; omega
    have BZ := hidE (blk_below BZ.out hb BZ.out.lt)
    refine hK _ _ ⟨hS3, ?_⟩
    clear hK hb ho
    clear hg hal hkb hkb2
    have f0 := BZ.out.fz 0
    have f1 := BZ.out.fz 1
    have z0 : w3.cell? ⟨kb, 0, none⟩ = some (.int .i64 0) := BZ.out.c 0 (by simp)
    have z1 : w3.cell? ⟨kb, 1, none⟩ = some (.int .i64 0) := BZ.out.c 1 (by simp)
    have B4 := hidE (blk_set (blk_set BZ.out 0 (.int .i64 ka) (by simp)) 1 (.int .i64 kc) (by simp))
    have HO4 := hidE (ownsRow_setCell_other (ownsRow_setCell_other HO.out (a := ⟨kb, 0, none⟩) NE.out (.int .i64 ka)) (a := ⟨kb, 1, none⟩) NE.out (.int .i64 kc))
    have hSz := ((hS3.setCell (p := ⟨kb, 0, none⟩) hgs.out (.int .i64 ka)).setCell (p := ⟨kb, 1, none⟩) hgs.out (.int .i64 kc))
    refine held_go (i := 7) (L := #[true, true, true, true, true, true, true, true, false]) (by kernel_rfl) rfl (by kernel_rfl) (by kernel_rfl) ?_
    intro K' hK
    go_simp
    refine hK _ _ ⟨hSz, ?_⟩
    clear hK
    refine held_go (i := 8) (L := #[true, true, true, true, true, true, true, true, true]) (by kernel_rfl) rfl (by kernel_rfl) (by kernel_rfl) ?_
    intro K' hK
    go_simp
    refine hK _ _ ⟨hSz, ?_⟩
    clear hK
    subst hNV hVS
    refine wpAnyH_done (by kernel_rfl) ?_ _
    exact HQ.out _ kb au cu _ rfl rfl rfl rfl rfl rfl rfl rfl rfl ⟨by simpa using B4.out, hgs.out, HO4.out, hSz⟩
end Go.Proofs.YtaomljdbndajgaaGreatDoor
/- The contracts of window.Starts and of the document's Starts, over this seat's translation: both list where the windows that a time is in begin. Conditions: a time, a size and a slide that may be. -/
namespace Go.Proofs.YtaomljdbndajgaaGreatDoor
open Go.ChangeShapes Go.WideShapes Go.ChangeAt Go.RowKit
set_option linter.unusedVariables false
set_option linter.unusedSimpArgs false

theorem may_any (a z s : Int) (w : World) (h : MayW a z s) :
    Calls Tryz.prog 102 #[.int .i64 a, .int .i64 z, .int .i64 s] w fun e w' => e = .returned (.bool true) ∧ w' = w := by
  obtain ⟨a0, a1, s1, sz, z1, z4⟩ := h
  go_enter Tryz.func102, Tryz.ntmps102
  go_wp2_with fail
  go_ret
  exact ⟨rfl, rfl⟩

set_option maxRecDepth 100000 in
theorem starts_any (a z s : Int) (w : World) (h : MayW a z s) :
    Calls Tryz.prog 84 #[.int .i64 a, .int .i64 z, .int .i64 s] w fun e w' => ∃ u, e = .returned u ∧ w'.ownsRow w.heap.size 3 1 u (winL a z s).length ((winL a z s).map (Value.int .i64)) ∧ Below w.heap.size w w' := by
  obtain ⟨i0, hi, hz0, hz1, hz2⟩ := info_parts infoI
  have HM := hidE h
  have hf := win_facts h
  obtain ⟨hk, hk4, hk0⟩ := winK_is h
  obtain ⟨a0, a1, s1, sz, z1, z4⟩ := h
  obtain ⟨m0, m1, m2, -⟩ := win_mod a0 s1
  have hF : winF a z s = a - a.tmod s - winQ a z s * s := rfl
  have he : a.tmod s = a % s := Int.tmod_eq_emod_of_nonneg a0
  have hQ : winQ a z s = (z - 1 - a % s) / s := by
    unfold winQ
    rw [he]
    exact Int.tdiv_eq_ediv_of_nonneg (by omega)
  rw [he] at hF hf m0 m1 m2
  clear he
  have HF := hidE hF
  clear hF
  rw [hQ] at hf HF hk
  clear hQ
  have hw : winL a z s = stepsL (winF a z s) s (winK a z s) := rfl
  rw [hw]
  have hF0 : -1000 ≤ winF a z s := by rw [HF.out]; omega
  have UP := hidE (fun i => win_upto HM.out i)
  clear hw hk
  generalize winF a z s = F at *
  generalize winK a z s = K at *
  go_enter Tryz.func84, Tryz.ntmps84
  go_wp2_with (go_at_call 102; refine (may_any a z s _ HM.out).mono ?_; rintro e w' ⟨rfl, hw⟩; subst w')
  rw [← HF.out]
  clear hf m0 m1 m2 HF
  go_loopw [9, 10] (fun v i wr => ∃ n : Nat, n ≤ K ∧ i = .int .i64 (F + (n : Int) * s) ∧ Hid (wr.ownsRow w.heap.size 3 1 v n ((stepsL F s n).map (Value.int .i64))) ∧ Hid (Below w.heap.size w wr)) (fun _ i _ => (a + 1 - intOf i).toNat)
  case atStart => exact ⟨0, Nat.zero_le _, by simp, World.ownsRow_nil _ _ _ _, Below.refl _ _⟩
  case round =>
    obtain ⟨n, hn, rfl, HO, HB⟩ := hrel
    obtain ⟨ao, cap, rfl⟩ := owns_shapeE HO.out
    have hs0 : 0 ≤ (n : Int) * s := Int.mul_nonneg (by omega) (by omega)
    have hst : Hid ((F + (n : Int) * s) + s = F + ((n + 1 : Nat) : Int) * s) := by
      show _ = _
      rw [Int.natCast_add, Int.add_mul]; omega
    have ht0 : -1000 ≤ F + (n : Int) * s := by omega
    have hsn := steps_succ F s n
    have hu := UP.out n
    generalize F + (n : Int) * s = t at *
    by_cases hlt : n < K
    · have ht := hu.2 hlt
      go_wp2_with (at_builtin; go_must (refine wpList_append_own _ rfl (.tmp 38) (.tmp 40) 67 rfl w.heap.size 3 i0 (.int .i64 0) 1 8 Tryz.underlying67 hi hz0 hz1 hz2 rfl (by decide) _ _ _ rfl (HO.out.alloc _) ⟨wr.heap.size, 0, none⟩ 1 1 [.int .i64 t] rfl rfl (cell_one_newE _ _ _) (by intro u hu; simp at hu; subst hu; rfl) (by show _ ≤ 2 ^ 63 - 1; omega) (by omega) (by have := HB.out.size; simp; omega) ?_))
      intro v' w3 ho3 hg3 _
      have ho4 : w3.ownsRow w.heap.size 3 1 v' (n + 1) ((stepsL F s (n + 1)).map (Value.int .i64)) := by rw [hsn]; simpa using ho3
      have HO3 := hidE ho4
      have HB3 : Hid (Below w.heap.size w w3) := (HB.out.alloc HB.out.size _).grown hg3 (by have := HB.out.size; simp; omega) (fun k hk => (HO.out.lt k hk).1)
      clear ho3 hg3 ho4
      go_wp2_with fail
      go_roundw
      case rel => exact ⟨n + 1, by omega, by rw [← hst.out], HO3, HB3⟩
      case measure => simp [intOf]; omega
    · have ht : ¬ t ≤ a := fun hh => hlt (hu.1 hh)
      have hnK : n = K := by omega
      subst hnK
      go_wp2_with fail
      go_ret
      exact ⟨_, rfl, by rw [steps_len]; exact HO.out, HB.out⟩

end Go.Proofs.YtaomljdbndajgaaGreatDoor

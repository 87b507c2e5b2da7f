/- Several texts in one, each with its own head. What is proved: what the parts say. Conditions: theirs. -/
import Derived.Test.YteaanpdckkmjoaaGreatDoorChkQ
import Derived.Test.YteaanpdckkmjoaaGreatDoorPrsHJ
import Derived.Carry
/- The contract of query.Check, over this seat's translation, whole. Conditions: as named. -/
namespace Go.Proofs.YteaanpdckkmjoaaGreatDoor
open Go.ChangeShapes Go.WideShapes Go.ChangeAt Go.RowKit
set_option linter.unusedVariables false
set_option linter.unusedSimpArgs false

theorem chkAs_all : ∀ (l : List AgQ), (∀ (m : Nat) (a : AgQ), l[m]? = some a → chkA a = 0) → chkAs l = 0
  | [], _ => rfl
  | a :: l, h => by
    unfold chkAs
    rw [if_neg (by simp [h 0 a rfl])]
    exact chkAs_all l (fun m b hb => h (m + 1) b (by simpa using hb))
theorem chkAs_at : ∀ (l : List AgQ) (j : Nat) (a : AgQ), l[j]? = some a → chkA a ≠ 0 → (∀ m b, m < j → l[m]? = some b → chkA b = 0) → chkAs l = chkA a
  | [], j, a, h, _, _ => by simp at h
  | b :: l, 0, a, h, hc, _ => by
    simp at h
    subst h
    unfold chkAs
    rw [if_pos hc]
  | b :: l, j + 1, a, h, hc, hp => by
    unfold chkAs
    rw [if_neg (by simp [hp 0 b (by omega) rfl])]
    exact chkAs_at l j a (by simpa using h) hc (fun m b hm hb => hp (m + 1) b (by omega) (by simpa using hb))
/-- a list of what is gathered, in memory wherever -/
structure AggG (w : World) (va : Value) (ps : List (AgQ × Value)) : Prop where
  row : RowG w va 2 ps.length (rowOf cellsAg ps)
  nds : ∀ p ∈ ps, NodG w p.2 p.1.of ∧ p.1.of.length ≤ 1000
theorem cellsAg_len (p : AgQ × Value) : (cellsAg p).length = 2 := rfl
theorem aggG_below {w w' : World} {va : Value} {ps : List (AgQ × Value)} (h : AggG w va ps) (hb : Below w.heap.size w w') : AggG w' va ps := ⟨rowG_below h.row hb, fun p hp => ⟨nodG_below (h.nds p hp).1 hb, (h.nds p hp).2⟩⟩
structure QyG (w : World) (va vw vb : Value) (q : Qy) (ps : List (AgQ × Value)) : Prop where
  ag : AggG w va ps
  qa : ps.map Prod.fst = q.aggs
  wh : NodG w vw q.wh
  by_ : NodG w vb q.bys
  lw : q.wh.length ≤ 1000
  lb : q.bys.length ≤ 1000
theorem qyG_below {w w' : World} {va vw vb : Value} {q : Qy} {ps : List (AgQ × Value)} (h : QyG w va vw vb q ps) (hb : Below w.heap.size w w') : QyG w' va vw vb q ps := ⟨aggG_below h.ag hb, h.qa, nodG_below h.wh hb, nodG_below h.by_ hb, h.lw, h.lb⟩
def qyV (va vw vb : Value) (q : Qy) : Value := .agg #[va, vw, vb, .int .i64 q.size, .int .i64 q.slide, .int .i64 q.delay, .int .i64 q.late]
set_option maxRecDepth 100000 in
set_option maxHeartbeats 2000000 in
theorem qcheck_any (va vw vb : Value) (q : Qy) (ps : List (AgQ × Value)) (W : World) (h : QyG W va vw vb q ps) :
    Calls Tryz.prog 9 #[qyV va vw vb q] W fun e w' => e = .returned (errC (chkQ q)) ∧ Below W.heap.size W w' := by
  unfold qyV
  obtain ⟨ao, cap, rfl⟩ := rowG_shape h.ag.row
  obtain ⟨a2, c2, rfl⟩ := rowG_shape h.wh
  obtain ⟨a3, c3, rfl⟩ := rowG_shape h.by_
  have ba := below_alloc W (.cells #[.slice ao ps.length cap, .slice a2 q.wh.length c2, .slice a3 q.bys.length c3, .int .i64 q.size, .int .i64 q.slide, .int .i64 q.delay, .int .i64 q.late] 25)
  have BA := hidE ba
  have hlen : q.aggs.length = ps.length := by rw [← h.qa]; simp
  have BQ := hidE (blk_alloc W [.slice ao ps.length cap, .slice a2 q.wh.length c2, .slice a3 q.bys.length c3, .int .i64 q.size, .int .i64 q.slide, .int .i64 q.delay, .int .i64 q.late] 25)
  by_cases h0 : ps.length = 0 ∨ 4 < ps.length
  · have e : chkQ q = 2 := by unfold chkQ; rw [if_pos (by omega)]
    rw [e, errC_ne (by decide)]
    clear e hlen h ba BQ
    by_cases h1 : ps.length = 0
    · rw [h1] at *
      clear h0
      go_enter Tryz.func9, Tryz.ntmps9
      go_wp2_with fail
      go_ret
      exact ⟨rfl, below_alloc _ _⟩
    · have h2 : (4 : Int) < (ps.length : Int) := by omega
      have h3 : ((ps.length : Int) == 0) = false := beq_eq_false_iff_ne.2 (by omega)
      clear h0
      go_enter Tryz.func9, Tryz.ntmps9
      go_wp2_with fail
      go_ret
      exact ⟨rfl, BA.out⟩
  · have h1 : ¬ (4 : Int) < (ps.length : Int) := by omega
    have h3 : ((ps.length : Int) == 0) = false := beq_eq_false_iff_ne.2 (by omega)
    have HE : Hid (∀ j a, q.aggs[j]? = some a → chkA a ≠ 0 → (∀ m b, m < j → q.aggs[m]? = some b → chkA b = 0) → chkQ q = chkA a) := fun j a ha hc hp => by
      have e9 := chkAs_at q.aggs j a ha hc hp
      unfold chkQ
      rw [if_neg (by omega), if_pos (by rw [e9]; exact hc), e9]
    have HW : Hid ((∀ m b, q.aggs[m]? = some b → chkA b = 0) → chkQ q = if chkW q.wh ≠ 0 then chkW q.wh else if chkB q.bys ≠ 0 then chkB q.bys else chkS q) := fun hp => by
      have e9 := chkAs_all q.aggs hp
      unfold chkQ
      rw [if_neg (by omega), if_neg (by simp [e9])]
    have HG := hidE (qyG_below h ba)
    have HQA := hidE h.qa
    have hn4 : ps.length ≤ 4 := by omega
    generalize hc : chkQ q = c at *
    clear hlen h ba h0 hc
    go_enter Tryz.func9, Tryz.ntmps9
    go_wp2_with fail
    generalize hgz : W.heap.size = gz at *
    generalize W.alloc (.cells #[.slice ao ps.length cap, .slice a2 q.wh.length c2, .slice a3 q.bys.length c3, .int .i64 q.size, .int .i64 q.slide, .int .i64 q.delay, .int .i64 q.late] 25) = w0 at *
    have lq := BQ.out.lt
    have hle : gz ≤ w0.heap.size := by rw [← hgz]; exact BA.out.size
    go_loopw [22] (fun i wr => ∃ j : Nat, j ≤ ps.length ∧ i = .int .i64 j ∧ Hid (Below w0.heap.size w0 wr) ∧ Hid (∀ m b, m < j → q.aggs[m]? = some b → chkA b = 0)) (fun i _ => ps.length - (intOf i).toNat)
    case atStart => exact ⟨0, Nat.zero_le _, rfl, Below.refl _ _, fun m b hm => absurd hm (by omega)⟩
    case round =>
      obtain ⟨j, hj, rfl, HB, HP⟩ := hrel
      by_cases hlt : j < ps.length
      · have HGr := hidE (qyG_below HG.out HB.out)
        obtain ⟨g, off, hao, hcell, q1, q2, lg⟩ := rowOf_val cellsAg_len HGr.out.ag.row j hlt
        subst hao
        have hnd := HGr.out.ag.nds ps[j] (List.getElem_mem hlt)
        have hqa : q.aggs[j]? = some ps[j].1 := by rw [← HQA.out]; simp [hlt]
        have HQJ := hidE hqa
        generalize ps[j] = p at *
        obtain ⟨⟨k, l⟩, v⟩ := p
        have y0 := hcell 0 (by omega)
        have y1 := hcell 1 (by omega)
        have y0 : wr.cell? ⟨g, off + j * 2, none⟩ = some (.int .i64 k) := y0
        have y1 : wr.cell? ⟨g, off + j * 2 + 1, none⟩ = some v := y1
        have hsh : ∃ a9 n9 c9, v = .slice a9 n9 c9 := by obtain ⟨a9, c9, e9⟩ := rowG_shape hnd.1; exact ⟨_, _, _, e9⟩
        obtain ⟨a9, n9, c9, rfl⟩ := hsh
        have ba2 := below_alloc wr (.cells #[.int .i64 k, .slice a9 n9 c9] 46)
        have CA := checkAgg_any ⟨k, l⟩ (.slice a9 n9 c9) _ hnd.2 (nodG_below hnd.1 ba2)
        have HB2 := hidE (HB.out.trans (ba2.mono HB.out.size))
        unfold maxLen at q2
        clear hcell hnd ba2 hqa
        by_cases hca : chkA ⟨k, l⟩ = 0
        · rw [hca, errC_0] at CA
          have CAH := hidE CA
          have HP2 : Hid (∀ m b, m < j + 1 → q.aggs[m]? = some b → chkA b = 0) := fun m b hm hb => by
            by_cases e9 : m < j
            · exact HP.out m b e9 hb
            · have : m = j := by omega
              subst this
              rw [HQJ.out] at hb
              cases hb
              exact hca
          clear CA hca HP
          go_wp2_with fail
          refine CAH.out.mono ?_
          rintro r w1 ⟨rfl, hb⟩
          have HB3 := hidE (HB2.out.trans (hb.mono HB2.out.size))
          clear hb CAH
          go_wp2_with fail
          go_roundw
          case rel => exact ⟨j + 1, by omega, rfl, HB3, HP2⟩
          case measure => simp [intOf]; omega
        · have e : c = chkA ⟨k, l⟩ := HE.out j ⟨k, l⟩ HQJ.out hca HP.out
          rw [errC_ne hca] at CA
          have CAH := hidE CA
          have e2 : Hid (errC c = .iface 48 (.int .i64 (chkA ⟨k, l⟩))) := by show _ = _; rw [e, errC_ne hca]
          generalize chkA ⟨k, l⟩ = cc at *
          clear CA hca HP e
          go_wp2_with fail
          refine CAH.out.mono ?_
          rintro r w1 ⟨rfl, hb⟩
          have HB3 := hidE (HB2.out.trans (hb.mono HB2.out.size))
          clear hb CAH
          go_wp2_with fail
          go_ret
          rw [e2.out]
          exact ⟨rfl, by rw [hgz]; exact BA.out.trans (HB3.out.mono hle)⟩
      · have hje : j = ps.length := by omega
        subst hje
        have hall : ∀ m b, q.aggs[m]? = some b → chkA b = 0 := fun m b hb => HP.out m b (by
          have := (List.getElem?_eq_some_iff.1 hb).1
          rw [← HQA.out] at this
          simpa using this) hb
        have e := HW.out hall
        have HGr := hidE (qyG_below HG.out HB.out)
        have BQr := hidE (blk_below BQ.out HB.out lq)
        clear hlt hall HP HE HW
        have CW := checkWhere_any q.wh _ wr HGr.out.lw HGr.out.wh
        have CB := hidE (fun w (hb : Below wr.heap.size wr w) => checkBy_any q.bys _ w HGr.out.lb (nodG_below HGr.out.by_ hb))
        have b1 := BQr.out.c 1 (by simp)
        simp only [List.getElem?_cons_zero, List.getElem?_cons_succ] at b1
        by_cases hw : chkW q.wh = 0
        · rw [hw, errC_0] at CW
          rw [if_neg (by simp [hw])] at e
          have CWH := hidE CW
          clear CW hw
          by_cases hbz : chkB q.bys = 0
          · rw [if_neg (by simp [hbz])] at e
            subst e
            have HBZ := hidE hbz
            clear hbz
            go_wp2_with fail
            refine CWH.out.mono ?_
            rintro r w1 ⟨rfl, hb⟩
            have HB3 := hidE (HB.out.trans (hb.mono HB.out.size))
            have BQ1 := hidE (blk_below BQr.out hb BQr.out.lt)
            have CB1 := CB.out w1 hb
            rw [HBZ.out, errC_0] at CB1
            have CBH := hidE CB1
            have d2 := BQ1.out.c 2 (by simp)
            simp only [List.getElem?_cons_zero, List.getElem?_cons_succ] at d2
            clear hb CWH CB CB1 b1
            go_wp2_with fail
            refine CBH.out.mono ?_
            rintro r w2 ⟨rfl, hb⟩
            have HB4 := hidE (HB3.out.trans (hb.mono HB3.out.size))
            have BQ2 := hidE (blk_below BQ1.out hb BQ1.out.lt)
            have CS := hidE (checkWindow_any (.slice ao ps.length cap) (.slice a2 q.wh.length c2) (.slice a3 q.bys.length c3) rfl rfl rfl q w2)
            have z0 := BQ2.out.c 0 (by simp)
            have z1 := BQ2.out.c 1 (by simp)
            have z2 := BQ2.out.c 2 (by simp)
            have z3 := BQ2.out.c 3 (by simp)
            have z4 := BQ2.out.c 4 (by simp)
            have z5 := BQ2.out.c 5 (by simp)
            have z6 := BQ2.out.c 6 (by simp)
            simp only [List.getElem?_cons_zero, List.getElem?_cons_succ] at z0 z1 z2 z3 z4 z5 z6
            obtain ⟨ev, hev⟩ : ∃ ev, errC (chkS q) = ev := ⟨_, rfl⟩
            rw [hev] at CS
            have HEV := hidE hev
            clear hb CBH d2 hev
            go_wp2_with fail
            refine CS.out.mono ?_
            rintro r w3 ⟨rfl, hb⟩
            have HB5 := hidE (HB4.out.trans (hb.mono HB4.out.size))
            clear hb CS
            go_wp2_with fail
            go_ret
            rw [HEV.out]
            exact ⟨rfl, by rw [hgz]; exact BA.out.trans (HB5.out.mono hle)⟩
          · rw [if_pos hbz] at e
            have e2 : Hid (errC c = .iface 48 (.int .i64 (chkB q.bys))) := by show _ = _; rw [e, errC_ne hbz]
            have HBZ := hidE hbz
            clear hbz e
            go_wp2_with fail
            refine CWH.out.mono ?_
            rintro r w1 ⟨rfl, hb⟩
            have HB3 := hidE (HB.out.trans (hb.mono HB.out.size))
            have BQ1 := hidE (blk_below BQr.out hb BQr.out.lt)
            have CB1 := CB.out w1 hb
            rw [errC_ne HBZ.out] at CB1
            have CBH := hidE CB1
            have d2 := BQ1.out.c 2 (by simp)
            simp only [List.getElem?_cons_zero, List.getElem?_cons_succ] at d2
            generalize chkB q.bys = cc at *
            clear hb CWH CB CB1 b1 HBZ
            go_wp2_with fail
            refine CBH.out.mono ?_
            rintro r w2 ⟨rfl, hb⟩
            have HB4 := hidE (HB3.out.trans (hb.mono HB3.out.size))
            clear hb CBH d2
            go_wp2_with fail
            go_ret
            rw [e2.out]
            exact ⟨rfl, by rw [hgz]; exact BA.out.trans (HB4.out.mono hle)⟩
        · rw [if_pos hw] at e
          rw [errC_ne hw] at CW
          have CWH := hidE CW
          have e2 : Hid (errC c = .iface 48 (.int .i64 (chkW q.wh))) := by show _ = _; rw [e, errC_ne hw]
          generalize chkW q.wh = cc at *
          clear CW hw e CB
          go_wp2_with fail
          refine CWH.out.mono ?_
          rintro r w1 ⟨rfl, hb⟩
          have HB3 := hidE (HB.out.trans (hb.mono HB.out.size))
          clear hb CWH
          go_wp2_with fail
          go_ret
          rw [e2.out]
          exact ⟨rfl, by rw [hgz]; exact BA.out.trans (HB3.out.mono hle)⟩
end Go.Proofs.YteaanpdckkmjoaaGreatDoor
/- The contract of query's signs, over this seat's translation. Conditions: none. -/
namespace Go.Proofs.YteaanpdckkmjoaaGreatDoor
open Go.ChangeShapes Go.WideShapes Go.ChangeAt Go.RowKit
set_option linter.unusedVariables false
set_option linter.unusedSimpArgs false

set_option maxRecDepth 100000 in
set_option maxHeartbeats 2000000 in
theorem signs_any (w : World) : Calls Tryz.prog 30 #[] w fun r w' => r = .returned (.map (some w.heap.size)) ∧ Below w.heap.size w w' ∧ MapL w' w.heap.size sgL := by
  have M0 := mapL_new w
  have B0 := below_alloc w (.map #[] 0)
  have mk : (Instr.makeMap 60 none).run Tryz.prog w = .ok (.map (some w.heap.size)) (w.alloc (.map #[] 0)) := rfl
  generalize w.heap.size = g at *
  generalize w.alloc (.map #[] 0) = w0 at *
  obtain ⟨w1, r0, M1, K0⟩ := insS M0 wOr ⟨0, 10, false, false⟩ (by decide)
  have B1 : Below g w w1 := B0.trans (keptB_below K0 (Nat.le_of_lt (mapL_lt M0)) (fun k e => by omega))
  have i0 : (Instr.mapUpdate 60 (.map (some g)) (.string ⟨#[111, 114]⟩) (.agg #[.int .i64 0, .int .i64 10, .bool false, .bool false])).run Tryz.prog w0 = .ok () w1 := r0
  obtain ⟨w2, r1, M2, K1⟩ := insS M1 wAnd ⟨1, 9, false, false⟩ (by decide)
  have B2 : Below g w w2 := B1.trans (keptB_below K1 (Nat.le_of_lt (mapL_lt M1)) (fun k e => by omega))
  have i1 : (Instr.mapUpdate 60 (.map (some g)) (.string ⟨#[97, 110, 100]⟩) (.agg #[.int .i64 1, .int .i64 9, .bool false, .bool false])).run Tryz.prog w1 = .ok () w2 := r1
  obtain ⟨w3, r2, M3, K2⟩ := insS M2 wLt ⟨2, 11, false, false⟩ (by decide)
  have B3 : Below g w w3 := B2.trans (keptB_below K2 (Nat.le_of_lt (mapL_lt M2)) (fun k e => by omega))
  have i2 : (Instr.mapUpdate 60 (.map (some g)) (.string ⟨#[60]⟩) (.agg #[.int .i64 2, .int .i64 11, .bool false, .bool false])).run Tryz.prog w2 = .ok () w3 := r2
  obtain ⟨w4, r3, M4, K3⟩ := insS M3 wGt ⟨2, 11, true, false⟩ (by decide)
  have B4 : Below g w w4 := B3.trans (keptB_below K3 (Nat.le_of_lt (mapL_lt M3)) (fun k e => by omega))
  have i3 : (Instr.mapUpdate 60 (.map (some g)) (.string ⟨#[62]⟩) (.agg #[.int .i64 2, .int .i64 11, .bool true, .bool false])).run Tryz.prog w3 = .ok () w4 := r3
  obtain ⟨w5, r4, M5, K4⟩ := insS M4 wLe ⟨2, 11, true, true⟩ (by decide)
  have B5 : Below g w w5 := B4.trans (keptB_below K4 (Nat.le_of_lt (mapL_lt M4)) (fun k e => by omega))
  have i4 : (Instr.mapUpdate 60 (.map (some g)) (.string ⟨#[60, 61]⟩) (.agg #[.int .i64 2, .int .i64 11, .bool true, .bool true])).run Tryz.prog w4 = .ok () w5 := r4
  obtain ⟨w6, r5, M6, K5⟩ := insS M5 wGe ⟨2, 11, false, true⟩ (by decide)
  have B6 : Below g w w6 := B5.trans (keptB_below K5 (Nat.le_of_lt (mapL_lt M5)) (fun k e => by omega))
  have i5 : (Instr.mapUpdate 60 (.map (some g)) (.string ⟨#[62, 61]⟩) (.agg #[.int .i64 2, .int .i64 11, .bool false, .bool true])).run Tryz.prog w5 = .ok () w6 := r5
  obtain ⟨w7, r6, M7, K6⟩ := insS M6 wEq ⟨2, 12, false, false⟩ (by decide)
  have B7 : Below g w w7 := B6.trans (keptB_below K6 (Nat.le_of_lt (mapL_lt M6)) (fun k e => by omega))
  have i6 : (Instr.mapUpdate 60 (.map (some g)) (.string ⟨#[61]⟩) (.agg #[.int .i64 2, .int .i64 12, .bool false, .bool false])).run Tryz.prog w6 = .ok () w7 := r6
  obtain ⟨w8, r7, M8, K7⟩ := insS M7 wNe ⟨2, 12, false, true⟩ (by decide)
  have B8 : Below g w w8 := B7.trans (keptB_below K7 (Nat.le_of_lt (mapL_lt M7)) (fun k e => by omega))
  have i7 : (Instr.mapUpdate 60 (.map (some g)) (.string ⟨#[60, 62]⟩) (.agg #[.int .i64 2, .int .i64 12, .bool false, .bool true])).run Tryz.prog w7 = .ok () w8 := r7
  obtain ⟨w9, r8, M9, K8⟩ := insS M8 wPlus ⟨3, 6, false, false⟩ (by decide)
  have B9 : Below g w w9 := B8.trans (keptB_below K8 (Nat.le_of_lt (mapL_lt M8)) (fun k e => by omega))
  have i8 : (Instr.mapUpdate 60 (.map (some g)) (.string ⟨#[43]⟩) (.agg #[.int .i64 3, .int .i64 6, .bool false, .bool false])).run Tryz.prog w8 = .ok () w9 := r8
  obtain ⟨w10, r9, M10, K9⟩ := insS M9 wMinus ⟨3, 7, false, false⟩ (by decide)
  have B10 : Below g w w10 := B9.trans (keptB_below K9 (Nat.le_of_lt (mapL_lt M9)) (fun k e => by omega))
  have i9 : (Instr.mapUpdate 60 (.map (some g)) (.string ⟨#[45]⟩) (.agg #[.int .i64 3, .int .i64 7, .bool false, .bool false])).run Tryz.prog w9 = .ok () w10 := r9
  obtain ⟨w11, r10, M11, K10⟩ := insS M10 wStar ⟨4, 8, false, false⟩ (by decide)
  have B11 : Below g w w11 := B10.trans (keptB_below K10 (Nat.le_of_lt (mapL_lt M10)) (fun k e => by omega))
  have i10 : (Instr.mapUpdate 60 (.map (some g)) (.string ⟨#[42]⟩) (.agg #[.int .i64 4, .int .i64 8, .bool false, .bool false])).run Tryz.prog w10 = .ok () w11 := r10
  have MZ : MapL w11 g sgL := M11
  have MM := hidE MZ
  have BB := hidE B11
  clear M0 B0 M1 B1 M2 B2 M3 B3 M4 B4 M5 B5 M6 B6 M7 B7 M8 B8 M9 B9 M10 B10 M11 B11 MZ K0 r0 K1 r1 K2 r2 K3 r3 K4 r4 K5 r5 K6 r6 K7 r7 K8 r8 K9 r9 K10 r10
  go_enter Tryz.func30, Tryz.ntmps30
  go_wp2_with fail
  go_ret
  exact ⟨rfl, BB.out, MM.out⟩
end Go.Proofs.YteaanpdckkmjoaaGreatDoor

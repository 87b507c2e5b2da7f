/- The contracts of slices.Clone of nodes and of fold.foldOne, over this seat's translation. Conditions: as named. -/
import Derived.Test.YtaomljdbndajgaaGreatDoorFoQJ
namespace Go.Proofs.YtaomljdbndajgaaGreatDoor
open Go.ChangeShapes Go.WideShapes Go.ChangeAt Go.RowKit
set_option linter.unusedVariables false
set_option linter.unusedSimpArgs false

theorem rowN_one : ∀ (l : List Nd), ∀ u ∈ rowN l, u.oneCell' = true := by
  intro r u hu
  unfold rowN at hu
  rw [List.mem_flatMap] at hu
  obtain ⟨e, -, h⟩ := hu
  simp only [cellsN, List.mem_cons, List.not_mem_nil, or_false] at h
  rcases h with rfl | rfl | rfl | rfl | rfl | rfl <;> rfl

set_option maxRecDepth 100000 in
theorem cloneN_any (l : List Nd) (v : Value) (w : World) (hl : l.length ≤ 1000) (h0 : 0 < l.length) (hr : RowG w v 6 l.length (rowN l)) :
    Calls Tryz.prog 17 #[v] w fun e w' => ∃ u, e = .returned u ∧ RowG w' u 6 l.length (rowN l) ∧ Below w.heap.size w w' ∧ FrV w.heap.size u := by
  obtain ⟨i0, hi, hz0, hz1, hz2⟩ := info_parts infoN
  obtain ⟨hlen, hr⟩ := hr
  rcases hr with ⟨-, hn⟩ | ⟨g, off, cap, rfl, hle, hm, hgl, hcell⟩
  · omega
  · have HC := hidE hcell
    clear hcell
    unfold maxLen at hm
    have en := fun w => eql_nodes_nil w ⟨g, off, none⟩ l.length cap
    have HO : Hid ((w.alloc (.cells #[] 29)).ownsRow w.heap.size 29 6 (.slice (some ⟨w.heap.size, 0, none⟩) 0 0) 0 []) := by
      have h := World.ownsRow_lit (base := w.heap.size) (size := 6) (e := 29) w #[] 0 (Nat.le_refl _) (by decide) rfl
      exact hidE (by simpa using h)
    have HN : Hid (∀ j u, (rowN l)[j]? = some u → (w.alloc (.cells #[] 29)).cell? ((⟨g, off, none⟩ : Addr).add j) = some u) := fun j u hu => by
      have hj : j < l.length * 6 := by
        have := (List.getElem?_eq_some_iff.1 hu).1
        rw [hlen] at this
        exact this
      have h2 : (w.alloc (.cells #[] 29)).cell? ⟨g, off + j, none⟩ = w.cell? ⟨g, off + j, none⟩ := World.cell?_alloc_lt _ _ _ (by exact hgl)
      have h3 : (⟨g, off, none⟩ : Addr).add j = ⟨g, off + j, none⟩ := by simp [Addr.add]
      rw [h3, h2, HC.out j hj, hu]
    have HL := hidE hlen
    have HOC := hidE (rowN_one l)
    clear hlen
    go_enter Tryz.func17, Tryz.ntmps17
    go_wp2_with (at_builtin; go_must (refine wpList_append_own _ rfl (.tmp 5) (.tmp 6) 23 rfl w.heap.size 29 i0 (.agg #[.int .i64 0, .int .i64 0, .int .i64 0, .int .i64 0, .int .i64 0, .int .i64 0]) 6 48 Tryz.underlying23 hi hz0 hz1 hz2 rfl (by decide) _ _ _ rfl HO.out ⟨g, off, none⟩ l.length cap (rowN l) rfl HL.out HN.out HOC.out (by show _ ≤ 2 ^ 63 - 1; omega) (by omega) (by simp) ?_))
    intro v' w3 ho3 hg3 _
    have ho4 : w3.ownsRow w.heap.size 29 6 v' l.length (rowN l) := by simpa using ho3
    have HO3 := hidE ho4
    have HB3 : Hid (Below w.heap.size w w3) := ((Below.refl _ _).alloc (Nat.le_refl _) _).grown hg3 (by simp) (fun k hk => by have := (HO.out.lt k hk).1; omega)
    clear ho3 hg3 ho4
    obtain ⟨ao3, cap3, rfl⟩ := rowG_shape (rowG_of_owns HO3.out)
    go_wp2_with fail
    go_ret
    exact ⟨_, rfl, rowG_of_owns HO3.out, HB3.out, frV_of_owns HO3.out⟩

/-- a tree's last node -/
def rootN : Ex → Nd
  | .cst k v => ⟨1, 0, 0, 0, k, v⟩
  | .fld n => ⟨2, 0, 0, n, 0, 0⟩
  | .one op a => ⟨op, ((flat a).length : Int) - 1, 0, 0, 0, 0⟩
  | .two op a b => ⟨op, ((flat a).length : Int) - 1, ((flat a).length : Int) + (flat b).length - 1, 0, 0, 0⟩
theorem root_at (t : Ex) (m : Nat) (h : (flat t).length = m + 1) : (flat t)[m]? = some (rootN t) := by
  cases t with
  | cst k v => have : m = 0 := by simp [flat] at h; omega
               subst this; rfl
  | fld n => have : m = 0 := by simp [flat] at h; omega
             subst this; rfl
  | one op a =>
    have : m = (flat a).length := by simp [flat, join1] at h; omega
    subst this
    simp [flat, join1, rootN]
  | two op a b =>
    have e : m = (flat a ++ (flat b).map (mv (flat a).length)).length := by simp [flat, joinL] at h ⊢; omega
    subst e
    rw [flat, joinL, List.getElem?_append_right (Nat.le_refl _)]
    simp [rootN]
theorem flat_mvb {t : Ex} (h : Wf t) (hl : (flat t).length ≤ 100) : ∀ n ∈ flat t, Mvb n := by
  obtain ⟨bs, g, -⟩ := flat_good t h
  exact good_mvb g hl
theorem flat_ok {t : Ex} (h : Wf t) : ∀ n ∈ flat t, okN n = 0 := by
  obtain ⟨bs, g, -⟩ := flat_good t h
  intro n hn
  obtain ⟨i, hi, rfl⟩ := List.getElem_of_mem hn
  exact (g.2 i _ (List.getElem?_eq_getElem hi)).1
/-- what is cut out of a node over one is what it is over -/
theorem cut_one {op : Int} {a : Ex} (h : Wf (.one op a)) : ∃ bs, Good (flat (.one op a)) bs ∧ cutL (flat (.one op a)) (bs.getD ((flat a).length - 1) 0) ((flat a).length - 1) = flat a := by
  obtain ⟨h1, h2⟩ : ar op = 1 ∧ Wf a := h
  obtain ⟨bs, g, e⟩ := flat_good a h2
  refine ⟨bs ++ [0], good_join1 g (flat_pos a) e h1, ?_⟩
  have pos := flat_pos a
  have hb : (bs ++ [0]).getD ((flat a).length - 1) 0 = 0 := by
    rw [List.getD_eq_getElem?_getD, List.getElem?_append_left (by rw [g.1]; omega), e]
    rfl
  rw [hb]
  unfold cutL
  rw [flat, join1, show (flat a).length - 1 + 1 = (flat a).length from by omega, List.take_left, List.drop_zero]
  exact map_mv_zero _
theorem cut_two_l {op : Int} {a b : Ex} (h : Wf (.two op a b)) : ∃ bs, Good (flat (.two op a b)) bs ∧ cutL (flat (.two op a b)) (bs.getD ((flat a).length - 1) 0) ((flat a).length - 1) = flat a ∧ cutL (flat (.two op a b)) (bs.getD ((flat a).length + (flat b).length - 1) 0) ((flat a).length + (flat b).length - 1) = flat b := by
  obtain ⟨h1, h2, h3⟩ : ar op = 2 ∧ Wf a ∧ Wf b := h
  obtain ⟨ba, ga, ea⟩ := flat_good a h2
  obtain ⟨bb, gb, eb⟩ := flat_good b h3
  have pa := flat_pos a
  have pb := flat_pos b
  refine ⟨ba ++ bb.map (· + (flat a).length) ++ [0], good_joinL ga gb pa pb ea eb h1, ?_, ?_⟩
  · have hb : (ba ++ bb.map (· + (flat a).length) ++ [0]).getD ((flat a).length - 1) 0 = 0 := by
      rw [List.getD_eq_getElem?_getD, List.append_assoc, List.getElem?_append_left (by rw [ga.1]; omega), ea]
      rfl
    rw [hb]
    exact cut_left op _ _ pa
  · have hb : (ba ++ bb.map (· + (flat a).length) ++ [0]).getD ((flat a).length + (flat b).length - 1) 0 = (flat a).length := by
      rw [List.getD_eq_getElem?_getD, List.getElem?_append_left (by rw [List.length_append, List.length_map, ga.1, gb.1]; omega), List.getElem?_append_right (by rw [ga.1]; omega), ga.1, show (flat a).length + (flat b).length - 1 - (flat a).length = (flat b).length - 1 from by omega, List.getElem?_map, eb]
      simp
    rw [hb]
    exact cut_right op _ _ pb

def evZ : List V2 := evE 0 0 0 0 0 0 0
theorem evZ_ok : ∀ p ∈ evZ, okV p := may_ok (t := 0) (k1 := 0) (k2 := 0) (a1 := 0) (a2 := 0) (b1 := 0) (b2 := 0) (by decide)

set_option maxRecDepth 100000 in
set_option maxHeartbeats 1000000 in
theorem foldOne_any (op : Int) (x : Ex) (u : Value) (w : World) (ho : ar op = 1) (hw : Wf x) (hl : (flat x).length ≤ 50) (hr : RowT w u x) :
    Calls Tryz.prog 36 #[.int .i64 op, u] w fun e w' => ∃ u', e = .returned u' ∧ RowT w' u' (fold1 op x) ∧ Below w.heap.size w w' ∧ FrV w.heap.size u' := by
  obtain ⟨m, hm⟩ : ∃ m, (flat x).length = m + 1 := ⟨(flat x).length - 1, by have := flat_pos x; omega⟩
  have JO := hidE (join_one op (flat x) [] u (.slice none 0 0) w (by omega) hr ⟨rfl, .inl ⟨⟨_, _, rfl⟩, rfl⟩⟩ (flat_mvb hw (by omega)) ho)
  have wf1 : Wf (.one op x) := ⟨ho, hw⟩
  have hwl : (flat (.one op x)).length ≤ 51 := by simp [flat, join1]; omega
  have hop : op = 3 ∨ op = 4 ∨ op = 5 := ar1_cases ho
  have OK := hidE (fun w => ownKind_any op w (by omega))
  have HWR := hidE hr
  have m50 : m ≤ 50 := by omega
  obtain ⟨ao, cap, rfl⟩ := rowG_shape hr
  obtain ⟨g, off, rfl, hn, q1, q2, q3⟩ := rowN_node hr m (by omega)
  have hnode : (flat x)[m] = rootN x := by
    have := root_at x m hm
    rw [List.getElem?_eq_getElem (by omega)] at this
    simpa using this
  rw [hnode] at hn
  have HN := hidE (fun (w' : World) (hb : Below w.heap.size w w') => (⟨(hb.cell (p := ⟨g, off + m * 6, none⟩) q3).trans hn.1, (hb.cell (p := ⟨g, off + m * 6 + 1, none⟩) q3).trans hn.2.1, (hb.cell (p := ⟨g, off + m * 6 + 2, none⟩) q3).trans hn.2.2.1, (hb.cell (p := ⟨g, off + m * 6 + 3, none⟩) q3).trans hn.2.2.2.1, (hb.cell (p := ⟨g, off + m * 6 + 4, none⟩) q3).trans hn.2.2.2.2.1, (hb.cell (p := ⟨g, off + m * 6 + 5, none⟩) q3).trans hn.2.2.2.2.2⟩ : NodeAt w' g (off + m * 6) (rootN x)))
  unfold maxLen at q2
  clear hn hnode hr
  by_cases hc : isC x = true
  · have hf : fold1 op x = cstV (opV op (cval x) (0, 0)) := by unfold fold1; rw [if_pos hc]
    rw [hf]
    have hev : evL opV evZ (flat (.one op x)) = opV op (cval x) (0, 0) := by rw [ev_flat opV evZ _ wf1]; show opV op (evT opV evZ x) (0, 0) = _; rw [cst_ev opV evZ hc]
    have EV := hidE (fun u1 w1 (h : RowT w1 u1 (.one op x)) => eval_any (flat (.one op x)) u1 0 0 0 0 0 0 0 w1 (by omega) h (flat_ok wf1) evZ_ok)
    rw [show evE 0 0 0 0 0 0 0 = evZ from rfl, hev] at EV
    have CK := hidE (fun w => constant_any (opV op (cval x) (0, 0)) w)
    have IC := hidE (fun w1 (h : RowT w1 (.slice (some ⟨g, off, none⟩) (flat x).length cap) x) => isConst_any x _ w1 (by omega) h)
    rw [hc] at IC
    unfold aggE at EV
    unfold aggV at EV
    clear hev hf hm
    go_enter Tryz.func36, Tryz.ntmps36
    go_wp2_with fail
    refine JO.out.mono ?_
    rintro e w1 ⟨u1, rfl, ho1, hb⟩
    have F1 := hidE (frV_of_owns ho1)
    have R1 := hidE (rowG_of_owns ho1)
    have HB := hidE hb
    clear ho1 hb
    obtain ⟨ao1, cap1, rfl⟩ := rowG_shape R1.out
    go_wp2_with fail
    refine (IC.out _ (rowG_below HWR.out HB.out)).mono ?_
    rintro e w2 ⟨rfl, rfl⟩
    go_wp2_with fail
    refine (EV.out _ _ R1.out).mono ?_
    rintro e w3 ⟨rfl, hb⟩
    have HB := nxt HB hb
    clear hb
    go_wp2_with fail
    refine (CK.out _).mono ?_
    rintro e w4 ⟨u4, rfl, hr4, hb, f4⟩
    have F4 := hidE (frV_mono f4 HB.out.size)
    have HB := nxt HB hb
    clear hb
    obtain ⟨ao4, cap4, rfl⟩ := rowG_shape hr4
    go_wp2_with fail
    go_ret
    exact ⟨_, rfl, hr4, HB.out, F4.out⟩
  · have hc' : isC x = false := by simpa using hc
    have IC := hidE (fun w1 (h : RowT w1 (.slice (some ⟨g, off, none⟩) (flat x).length cap) x) => isConst_any x _ w1 (by omega) h)
    rw [hc'] at IC
    by_cases hk : (rootN x).op = op ∧ op ≠ 5
    · obtain ⟨inner, rfl⟩ : ∃ inner, x = .one op inner := by
        cases x with
        | cst k v => exact absurd rfl hc
        | fld n => have h9 : (2 : Int) = op := hk.1
                   omega
        | one o a => have h9 : o = op := hk.1
                     exact ⟨a, by rw [h9]⟩
        | two o a b => have h9 : o = op := hk.1
                       have h8 : ar o = 2 := hw.1
                       rw [h9] at h8
                       omega
      obtain ⟨bs, hg, hcut⟩ := cut_one hw
      have hin : (flat inner).length = m := by simp [flat, join1] at hm; omega
      have pin := flat_pos inner
      have CU := hidE (fun w1 (h : RowT w1 (.slice (some ⟨g, off, none⟩) (flat (.one op inner)).length cap) (.one op inner)) => cut_any (flat (.one op inner)) bs ((flat inner).length - 1) _ w1 (by omega) hg (by omega) h (flat_mvb hw (by omega)))
      rw [hcut] at CU
      have IO := hidE (fun u1 w1 (h : RowT w1 u1 inner) => isOf_any inner (ownK op) u1 w1 (by omega) hw.2 h)
      have hf : fold1 op (.one op inner) = if isO inner (ownK op) = true then inner else .one op (.one op inner) := by
        unfold fold1
        rw [if_neg (by simp [isC])]
        simp only
        by_cases h9 : isO inner (ownK op) = true
        · rw [if_pos (by first | exact ⟨rfl, hk.2, h9⟩ | exact ⟨trivial, hk.2, h9⟩), if_pos h9]
        · rw [if_neg (fun h => h9 h.2.2), if_neg h9]
      rw [hf]
      have dx : ((rootN (.one op inner)).x) = (((flat inner).length - 1 : Nat) : Int) := by show ((flat inner).length : Int) - 1 = _; omega
      have dop : (rootN (.one op inner)).op = op := rfl
      rw [hm] at IC CU JO HWR q1 ⊢
      clear hcut hf hg
      have HN := hidE (fun (w' : World) (hb : Below w.heap.size w w') => (by
        obtain ⟨n0, n1, n2, n3, n4, n5⟩ := HN.out w' hb
        rw [dx] at n1
        exact ⟨n0, n1, n2, n3, n4, n5⟩ : w'.cell? ⟨g, off + m * 6, none⟩ = some (.int .i64 op) ∧ w'.cell? ⟨g, off + m * 6 + 1, none⟩ = some (.int .i64 (((flat inner).length - 1 : Nat) : Int)) ∧ w'.cell? ⟨g, off + m * 6 + 2, none⟩ = some (.int .i64 0) ∧ w'.cell? ⟨g, off + m * 6 + 3, none⟩ = some (.int .i64 0) ∧ w'.cell? ⟨g, off + m * 6 + 4, none⟩ = some (.int .i64 0) ∧ w'.cell? ⟨g, off + m * 6 + 5, none⟩ = some (.int .i64 0)))
      have d5 : (op == 5) = false := by simp; omega
      have dn : (op != op) = false := by simp
      generalize hO : isO inner (ownK op) = O at *
      clear hm hin pin dx dop hO
      generalize hie : (flat inner).length - 1 = ie at *
      clear hie
      go_enter Tryz.func36, Tryz.ntmps36
      go_wp2_with fail
      refine JO.out.mono ?_
      rintro e w1 ⟨u1, rfl, ho1, hb⟩
      have F1 := hidE (frV_of_owns ho1)
      have R1 := hidE (rowG_of_owns ho1)
      have HB := hidE hb
      clear ho1 hb
      obtain ⟨ao1, cap1, rfl⟩ := rowG_shape R1.out
      go_wp2_with fail
      refine (IC.out _ (rowG_below HWR.out HB.out)).mono ?_
      rintro e w2 ⟨rfl, rfl⟩
      obtain ⟨n0, n1, n2, n3, n4, n5⟩ := HN.out w2 HB.out
      go_wp2_with fail
      have HB := nxta HB (.cells #[.int .i64 op, .int .i64 (ie : Int), .int .i64 0, .int .i64 0, .int .i64 0, .int .i64 0] 29)
      refine (CU.out _ (rowG_below HWR.out HB.out)).mono ?_
      rintro e w3 ⟨u3, rfl, ho3, hb⟩
      have F3 := hidE (frV_mono (frV_of_owns ho3) HB.out.size)
      have R3 := hidE (rowG_of_owns ho3)
      have R1 := hidE (rowG_below (rowG_below R1.out ((Below.refl w2.heap.size w2).alloc (Nat.le_refl _) (.cells #[.int .i64 op, .int .i64 (ie : Int), .int .i64 0, .int .i64 0, .int .i64 0, .int .i64 0] 29))) hb)
      have HB := nxt HB hb
      clear ho3 hb n0 n1 n2 n3 n4 n5
      obtain ⟨ao3, cap3, rfl⟩ := rowG_shape R3.out
      go_wp2_with fail
      refine (OK.out _).mono ?_
      rintro e w4 ⟨rfl, rfl⟩
      go_wp2_with fail
      refine (IO.out _ _ R3.out).mono ?_
      rintro e w5 ⟨rfl, hb⟩
      have R3 := hidE (rowG_below R3.out hb)
      have R1 := hidE (rowG_below R1.out hb)
      have HB := nxt HB hb
      clear hb
      cases O with
      | true =>
        go_wp2_with fail
        go_ret
        exact ⟨_, rfl, R3.out, HB.out, F3.out⟩
      | false =>
        go_wp2_with fail
        go_ret
        exact ⟨_, rfl, R1.out, HB.out, F1.out⟩
    · have hf : fold1 op x = .one op x := by
        unfold fold1
        rw [if_neg hc]
        cases x with
        | cst k v => exact absurd rfl hc
        | fld n => rfl
        | one o a =>
          simp only
          rw [if_neg]
          intro h9
          exact hk ⟨h9.1, h9.2.1⟩
        | two o a b => rfl
      rw [hf]
      rw [hm] at IC JO HWR q1 ⊢
      clear hf hm
      generalize rootN x = rn at *
      have HK := hidE hk
      obtain ⟨rop, rx, ry, rnn, rk, rv⟩ := rn
      have HN := hidE (fun (w' : World) (hb : Below w.heap.size w w') => (HN.out w' hb : w'.cell? ⟨g, off + m * 6, none⟩ = some (.int .i64 rop) ∧ w'.cell? ⟨g, off + m * 6 + 1, none⟩ = some (.int .i64 rx) ∧ w'.cell? ⟨g, off + m * 6 + 2, none⟩ = some (.int .i64 ry) ∧ w'.cell? ⟨g, off + m * 6 + 3, none⟩ = some (.int .i64 rnn) ∧ w'.cell? ⟨g, off + m * 6 + 4, none⟩ = some (.int .i64 rk) ∧ w'.cell? ⟨g, off + m * 6 + 5, none⟩ = some (.int .i64 rv)))
      simp only at hk
      go_enter Tryz.func36, Tryz.ntmps36
      go_wp2_with fail
      refine JO.out.mono ?_
      rintro e w1 ⟨u1, rfl, ho1, hb⟩
      have F1 := hidE (frV_of_owns ho1)
      have R1 := hidE (rowG_of_owns ho1)
      have HB := hidE hb
      clear ho1 hb
      obtain ⟨ao1, cap1, rfl⟩ := rowG_shape R1.out
      go_wp2_with fail
      refine (IC.out _ (rowG_below HWR.out HB.out)).mono ?_
      rintro e w2 ⟨rfl, rfl⟩
      obtain ⟨n0, n1, n2, n3, n4, n5⟩ := HN.out w2 HB.out
      have R2 := hidE (rowG_below R1.out ((Below.refl w2.heap.size w2).alloc (Nat.le_refl _) (.cells #[.int .i64 rop, .int .i64 rx, .int .i64 ry, .int .i64 rnn, .int .i64 rk, .int .i64 rv] 29)))
      have HB := nxta HB (.cells #[.int .i64 rop, .int .i64 rx, .int .i64 ry, .int .i64 rnn, .int .i64 rk, .int .i64 rv] 29)
      by_cases hro : rop = op
      · have h5 : op = 5 := by
          by_cases h5 : op = 5
          · exact h5
          · exact absurd ⟨hro, h5⟩ hk
        have dr : (rop != op) = false := by simp [hro]
        have d5 : (op == 5) = true := by simp [h5]
        clear hk hro h5 hop
        go_wp2_with fail
        go_ret
        exact ⟨_, rfl, R2.out, HB.out, F1.out⟩
      · have dr : (rop != op) = true := by simp [hro]
        clear hk hro
        go_wp2_with fail
        go_ret
        exact ⟨_, rfl, R2.out, HB.out, F1.out⟩
end Go.Proofs.YtaomljdbndajgaaGreatDoor

/- The law TopGather, over this seat's translation. Conditions: none. -/
import Derived.Test.YtchddjlbjldnpabGather2
namespace Go.Proofs.Ytchddjlbjldnpab
open Go.ChangeShapes Go.WideShapes Go.ChangeAt Go.RowKit
set_option linter.unusedVariables false
set_option linter.unusedSimpArgs false
attribute [local go_sem ↓] eql_value neq_value

set_option maxRecDepth 100000 in
set_option maxHeartbeats 1000000 in
theorem topGather_walk (k : Int) (l : List V2) (u : Value) (w : World) (hu : RowG w u 2 l.length (rowV l)) (hl : l.length ≤ maxLen) :
    Calls Try.prog 10 #[.int .i64 k, u] w fun e w' => e = .returned (.bool true) ∧ Below w.heap.size w w' := by
  obtain ⟨ao, cap, rfl⟩ := rowG_shape hu
  have HU := hidE hu
  clear hu
  unfold maxLen at hl
  have N1 := hidE (fun w => gnew_any 5 w)
  have N2 := hidE (fun w => number_any 3 w)
  have N3 := hidE (fun w => number_any 2 w)
  have A1 := hidE (fun w => gadd_any 5 0 0 0 1 3 w (by decide) (by decide) (by decide) (by decide))
  have A2 := hidE (fun w => gadd_any 5 1 0 3 1 2 w (by decide) (by decide) (by decide) (by decide))
  have A3 := hidE (fun w => gvalue_any 5 1 0 3 w (by decide) (by decide))
  have e1 : gstep 5 (0, 0, 0) (1, 3) = (1, 0, 3) := by decide
  have e2 : gstep 5 (1, 0, 3) (1, 2) = (1, 0, 3) := by decide
  have e3 : gval 5 (1, 0, 3) = (1, 3) := by decide
  have e4 : numK 3 = 1 := by decide
  have e5 : numN 3 = 3 := by decide
  have e6 : numK 2 = 1 := by decide
  have e7 : numN 2 = 2 := by decide
  rw [e1] at A1
  rw [e2] at A2
  rw [e3] at A3
  rw [e4, e5] at N2
  rw [e6, e7] at N3
  unfold aggA at N1 A1 A2
  simp only at N1 A1 A2 A3
  clear e1 e2 e3 e4 e5 e6 e7
  go_enter Try.func10, Try.ntmps10
  go_wp2_with fail
  refine (N1.out _).mono ?_
  rintro e wn ⟨rfl, hb⟩
  have HB := hidE hb
  obtain ⟨hc, hf⟩ := rules HB
  clear hb
  go_wp2_with fail
  refine (N2.out _).mono ?_
  rintro e wn ⟨rfl, hb⟩
  have HB := nxt HB hb
  obtain ⟨hc, hf⟩ := rules HB
  clear hb
  go_wp2_with fail
  refine (A1.out _).mono ?_
  rintro e wn ⟨rfl, hb⟩
  have HB := nxt HB hb
  obtain ⟨hc, hf⟩ := rules HB
  clear hb
  go_wp2_with fail
  refine (N3.out _).mono ?_
  rintro e wn ⟨rfl, hb⟩
  have HB := nxt HB hb
  obtain ⟨hc, hf⟩ := rules HB
  clear hb
  go_wp2_with fail
  refine (A2.out _).mono ?_
  rintro e wn ⟨rfl, hb⟩
  have HB := nxt HB hb
  obtain ⟨hc, hf⟩ := rules HB
  clear hb
  go_wp2_with fail
  refine (A3.out _).mono ?_
  rintro e wn ⟨rfl, hb⟩
  have HB := nxt HB hb
  obtain ⟨hc, hf⟩ := rules HB
  clear hb
  go_wp2_with fail
  have kn := kin_some (wn.alloc (.cells #[.int .i64 1, .int .i64 3] 59))
  obtain ⟨kc, kf⟩ := kin_rules (wn.alloc (.cells #[.int .i64 1, .int .i64 3] 59))
  have HBw : Hid (Below (wn.alloc (.cells #[.int .i64 1, .int .i64 3] 59)).heap.size (wn.alloc (.cells #[.int .i64 1, .int .i64 3] 59)) (wn.alloc (.cells #[.int .i64 1, .int .i64 3] 59))) := Below.refl _ _
  refine wp_region_kin HBw (by kernel_rfl) (by kernel_rfl) ?_
  repeat (go_big_quiet_step ((go_at_call 46; exact kin_of (N2.out _))))
  refine wpQuiet_nil ?_
  rintro _ ⟨pk, rfl⟩
  have HB := nxt (nxta HB (.cells #[.int .i64 1, .int .i64 3] 59)) pk.h
  clear kc kf kn HBw hc hf N1 N2 N3 A1 A2 A3
  generalize pk.w = wm at *
  clear pk
  by_cases c1 : 1 ≤ k
  case neg => go_wp2_with fail; go_ret; exact ⟨rfl, HB.out⟩
  have d1 : decide (k < 1) = false := by simp; omega
  by_cases c2 : k ≤ 5
  case neg => go_wp2_with fail; go_ret; exact ⟨rfl, HB.out⟩
  have d2 : decide (5 < k) = false := by simp; omega
  by_cases c3 : l.length ≤ 60
  case neg => go_wp2_with fail; go_ret; exact ⟨rfl, HB.out⟩
  have d3 : decide (60 < l.length) = false := by simp; omega
  have d4 : decide (60 < (l.length : Int)) = false := by simp; omega
  have GN := hidE (fun w => gnew_any k w)
  unfold aggA at GN
  simp only at GN
  go_wp2_with fail
  refine (GN.out _).mono ?_
  rintro e wa ⟨rfl, hb⟩
  have HA := nxt HB hb
  have HB := nxta (nxt HB hb) (.cells #[.int .i64 k, .int .i64 0, .int .i64 0, .int .i64 0] 55)
  clear hb
  go_wp2_with fail
  refine (GN.out _).mono ?_
  rintro e wb ⟨rfl, hb⟩
  have AA := hidE (accAt_below (accAt_new wa k 0 0 0) (hb.alloc hb.size (.cells #[.int .i64 k, .int .i64 0, .int .i64 0, .int .i64 0] 55)) (by simp))
  have AB := hidE (accAt_new wb k 0 0 0)
  have hab : wa.heap.size ≠ wb.heap.size := by
    have := hb.size
    simp at this
    omega
  have hga : w.heap.size ≤ wa.heap.size := by have := HA.out.size; omega
  have HB := nxta (nxt HB hb) (.cells #[.int .i64 k, .int .i64 0, .int .i64 0, .int .i64 0] 55)
  have hgb : w.heap.size ≤ wb.heap.size := by have := hb.size; simp at this; omega
  clear hb
  go_wp2_with fail
  generalize (wb.alloc (.cells #[.int .i64 k, .int .i64 0, .int .i64 0, .int .i64 0] 55)) = w0 at *
  generalize wa.heap.size = ga at *
  generalize wb.heap.size = gb at *
  clear GN HA
  have U1 : Hid (l.length = l.reverse.length) := by show _ = _; simp
  go_loopw [8] (fun i wr => ∃ n : Nat, n ≤ l.length ∧ i = .int .i64 n ∧ Hid (Below w.heap.size w wr) ∧ Hid (AccAt wr ga k (gfold k (l.take n)).1 (gfold k (l.take n)).2.1 (gfold k (l.take n)).2.2) ∧ Hid (AccAt wr gb k (gfold k (l.reverse.take n)).1 (gfold k (l.reverse.take n)).2.1 (gfold k (l.reverse.take n)).2.2)) (fun i _ => l.length - (intOf i).toNat)
  case atStart => exact ⟨0, Nat.zero_le _, rfl, HB, AA, AB⟩
  case round =>
    clear HB AA AB
    obtain ⟨n, hn, rfl, HB, AA, AB⟩ := hrel
    by_cases hlt : n < l.length
    case neg =>
      have hnl : n = l.length := by omega
      subst hnl
      have e1 : l.take l.length = l := List.take_length
      have e2 : l.reverse.take l.length = l.reverse := by rw [U1.out, List.take_length]
      rw [e2, gfold_rev] at AB
      rw [e1] at AA
      generalize gfold k l = T at *
      obtain ⟨x1, x2, x3⟩ := T
      simp only at AA AB
      obtain ⟨i0, i1, i2, i3, -, ilt⟩ := AA.out
      obtain ⟨j0, j1, j2, j3, -, jlt⟩ := AB.out
      have GV := hidE (fun w => gvalue_any k x1 x2 x3 w c1 c2)
      generalize gval k (x1, x2, x3) = Z at *
      obtain ⟨z1, z2⟩ := Z
      simp only at GV
      have kn := kin_some wr
      obtain ⟨kc, kf⟩ := kin_rules wr
      have HBw : Hid (Below wr.heap.size wr wr) := Below.refl _ _
      clear e1 e2 U1
      go_wp2_with fail
      refine wp_region_kin HBw (by kernel_rfl) (by kernel_rfl) ?_
      repeat (go_big_quiet_step ((go_at_call 25; exact kin_of (GV.out _))))
      refine wpQuiet_nil ?_
      rintro _ ⟨pk, rfl⟩
      have HB := nxt HB pk.h
      go_wp2_with fail
      go_ret
      exact ⟨rfl, HB.out⟩
    case pos =>
      obtain ⟨g, off, rfl, e1, e2, q1, q2, q3⟩ := rowV_in HU.out HB.out n hlt
      have hv := (List.getElem?_eq_getElem hlt)
      have T1 : Hid (gfold k (l.take (n + 1)) = gstep k (gfold k (l.take n)) l[n]) := by
        show _ = _
        rw [← gfold_snoc, List.take_add_one, hv]; rfl
      have hr : n < l.reverse.length := by simpa using hlt
      have hrn : l.reverse[n] = l[l.length - 1 - n] := List.getElem_reverse ..
      have T2 : Hid (gfold k (l.reverse.take (n + 1)) = gstep k (gfold k (l.reverse.take n)) l[l.length - 1 - n]) := by
        show _ = _
        rw [← gfold_snoc, List.take_add_one, List.getElem?_eq_getElem hr, hrn]; rfl
      obtain ⟨g', off', e', f1, f2, -, -, -⟩ := rowV_in HU.out HB.out (l.length - 1 - n) (by omega)
      simp only [Option.some.injEq, Addr.mk.injEq, and_true] at e'
      obtain ⟨rfl, rfl⟩ := e'
      obtain ⟨na1, na2⟩ := gfold_n k (l.take n)
      obtain ⟨nb1, nb2⟩ := gfold_n k (l.reverse.take n)
      have lt1 : (l.take n).length ≤ 60 := by simp; omega
      have lt2 : (l.reverse.take n).length ≤ 60 := by simp; omega
      have na3 : (gfold k (l.take n)).1 ≤ 1000 := by omega
      have nb3 : (gfold k (l.reverse.take n)).1 ≤ 1000 := by omega
      have F1 := hidE f1
      have F2 := hidE f2
      clear f1 f2 hr hrn hv na2 nb2 lt1 lt2
      generalize gfold k (l.take n) = T at *
      generalize gfold k (l.reverse.take n) = R at *
      obtain ⟨x1, x2, x3⟩ := T
      obtain ⟨y1, y2, y3⟩ := R
      generalize l[l.length - 1 - n] = rr at *
      generalize l[n] = vv at *
      obtain ⟨v1, v2⟩ := vv
      obtain ⟨r1, r2⟩ := rr
      obtain ⟨d, hd⟩ : ∃ d, l.length - 1 - n = d := ⟨_, rfl⟩
      rw [hd] at F1 F2
      have hdl : (l.length : Int) - 1 - (n : Int) = (d : Int) := by omega
      have HDL := hidE hdl
      have dlt : d < l.length := by omega
      clear hd hdl
      simp only at e1 e2 AA AB na1 na3 nb1 nb3 F1 F2 T1 T2
      unfold maxLen at q2
      by_cases hok : vok v1 v2 = true
      case neg =>
        go_wp2_with fail
        refine (check_no v1 v2 _ (by simpa using hok)).mono ?_
        rintro e w1 ⟨rfl, hb⟩
        have HB := nxt HB hb
        clear hb
        go_wp2_with fail
        go_ret
        exact ⟨rfl, HB.out⟩
      go_wp2_with fail
      refine (check_yes v1 v2 _ hok).mono ?_
      rintro e w1 ⟨rfl, hb⟩
      have HB' := nxt HB hb
      have hgr : g < wr.heap.size := Nat.lt_of_lt_of_le q3 HB.out.size
      rw [← hb.cell (p := ⟨g, _, none⟩) hgr] at e1 e2
      have F1 := hidE ((hb.cell (p := ⟨g, _, none⟩) hgr).trans F1.out)
      have F2 := hidE ((hb.cell (p := ⟨g, _, none⟩) hgr).trans F2.out)
      have AA := hidE (accAt_below AA.out hb AA.out.lt)
      have AB := hidE (accAt_below AB.out hb AB.out.lt)
      clear hb HB
      have HB := HB'
      clear HB'
      by_cases hk2 : 2 < k ∧ v1 = 2
      case pos =>
        obtain ⟨hk2, rfl⟩ := hk2
        have dk : decide (2 < k) = true := by simp; omega
        go_wp2_with fail
        go_ret
        exact ⟨rfl, HB.out⟩
      have hk3 : (decide (2 < k) = false) ∨ (decide (2 < k) = true ∧ (v1 == 2) = false) := by
        by_cases h2 : 2 < k
        · exact .inr ⟨by simp; omega, by simp; exact fun e => hk2 ⟨h2, e⟩⟩
        · exact .inl (by simp; omega)
      clear hk2
      have HB9 := HB
      rcases hk3 with dk | ⟨dk, dv⟩
      all_goals
        have hS0 : SKeep w1 ga { w1 with drawn := w1.drawn + 1 } := fun _ _ _ _ => rfl
        have hd0 : Below w1.heap.size w1 { w1 with drawn := w1.drawn + 1 } := (Below.refl _ _).drew
        have HD := nxt HB hd0
        have OO := hidE (accAt_below AB.out hd0 AB.out.lt)
        have A0 := hidE (accAt_below AA.out hd0 AA.out.lt)
        obtain ⟨i0, i1, i2, i3, ifz, ilt⟩ := A0.out
        have hgl : g < w1.heap.size := Nat.lt_of_lt_of_le q3 HB.out.size
        have hgg : g ≠ ga := by omega
        have HDD := hidE hd0
        clear hd0
        go_wp2_with fail
        refine wp_region_held (S := SKeep w1 ga) (by kernel_rfl) ?_
        generalize hwd : ({ w1 with drawn := w1.drawn + 1 } : World) = wd at *
        clear hwd
        refine held_take (i := 1) (v := .slice (some ⟨g, off, none⟩) l.length cap) (L := #[false, true, false, false, false, false, false]) rfl (by kernel_rfl) (by kernel_rfl) (by kernel_rfl) (fun c a w h => h) (Or.inl ⟨by kernel_rfl, fun wq h => by go_simp⟩) hS0 (by kernel_rfl) ?_
        refine held_take (i := 2) (v := .int .i64 (n : Int)) (L := #[false, true, true, false, false, false, false]) rfl (by kernel_rfl) (by kernel_rfl) (by kernel_rfl) (fun c a w h => h) (Or.inl ⟨by kernel_rfl, fun wq h => by go_simp⟩) hS0 (by kernel_rfl) ?_
        refine held_take (i := 3) (v := .pointer (some ⟨g, off + n * 2, none⟩)) (L := #[false, true, true, true, false, false, false]) rfl (by kernel_rfl) (by kernel_rfl) (by kernel_rfl) (fun c a w h => h) (Or.inl ⟨by kernel_rfl, fun wq h => by go_simp⟩) hS0 (by kernel_rfl) ?_
        refine held_take (i := 4) (v := .agg #[.int .i64 v1, .int .i64 v2]) (L := #[false, true, true, true, true, false, false]) rfl (by kernel_rfl) (by kernel_rfl) (by kernel_rfl) (fun c a w h => h) (Or.inl ⟨by kernel_rfl, fun wq h => by have q := h g (off + n * 2) hgl hgg; have q2 := h g (off + n * 2 + 1) hgl hgg; rw [e1] at q; rw [e2] at q2; go_simp⟩) hS0 (by kernel_rfl) ?_
        refine held_go (i := 0) (L := #[true, true, true, true, true, false, false]) (by kernel_rfl) rfl (by kernel_rfl) (by kernel_rfl) ?_
        intro K' hK
        go_simp
        refine hK _ _ ⟨hS0, ?_⟩
        clear hK
        refine held_go (i := 5) (L := #[true, true, true, true, true, true, false]) (by kernel_rfl) rfl (by kernel_rfl) (by kernel_rfl) ?_
        intro K' hK
        go_simp
        refine (gadd_any k x1 x2 x3 v1 v2 _ c1 c2 na1 na3).mono ?_
        rintro e wc ⟨rfl, hb⟩
        have SK := hidE (keep_below ga (HDD.out.trans (hb.mono HDD.out.size)))
        refine hK _ _ ⟨SK.out, ?_⟩
        clear hK i0 i1 i2 i3 ifz ilt
        have HC := nxt HD hb
        have OC := hidE (accAt_below OO.out hb OO.out.lt)
        have AC := hidE (accAt_below A0.out hb A0.out.lt)
        obtain ⟨i0, i1, i2, i3, ifz, ilt⟩ := AC.out
        have GW := hidE (fun o (hg : g < w.heap.size) => (HC.out.cell (p := ⟨g, o, none⟩) hg))
        clear hb
        generalize gstep k (x1, x2, x3) (v1, v2) = Z at *
        obtain ⟨z1, z2, z3⟩ := Z
        unfold aggA
        simp only
        refine held_go (i := 6) (L := #[true, true, true, true, true, true, true]) (by kernel_rfl) rfl (by kernel_rfl) (by kernel_rfl) ?_
        intro K' hK
        go_simp
        refine hK _ _ ⟨keep_set4 SK.out, ?_⟩
        clear hK
        refine wpAnyH_done (by kernel_rfl) ?_ _
        have AA := hidE (accAt_set (k' := k) (n' := z1) (s' := z2) (b' := z3) AC.out)
        have AB := hidE (accAt_far (k' := k) (n' := z1) (s' := z2) (b' := z3) OC.out hab)
        have HB := hidE (set4_below (k := k) (n := z1) (s := z2) (b := z3) HC.out hga)
        unfold set4 at AA AB HB
        clear i0 i1 i2 i3 ifz ilt hS0 HD OO A0 HDD SK HC OC AC GW hgl hgg
        have F1 : Hid _ := hidE (((HB.out.cell (p := ⟨g, off + d * 2, none⟩) q3).trans ((HB9.out.cell (p := ⟨g, off + d * 2, none⟩) q3).symm)).trans F1.out)
        have F2 : Hid _ := hidE (((HB.out.cell (p := ⟨g, off + d * 2 + 1, none⟩) q3).trans ((HB9.out.cell (p := ⟨g, off + d * 2 + 1, none⟩) q3).symm)).trans F2.out)
        generalize (((wc.setCell ⟨ga, 0, none⟩ (.int .i64 k)).setCell ⟨ga, 1, none⟩ (.int .i64 z1)).setCell ⟨ga, 2, none⟩ (.int .i64 z2)).setCell ⟨ga, 3, none⟩ (.int .i64 z3) = w5 at *
        have hgl : g < w5.heap.size := Nat.lt_of_lt_of_le q3 HB.out.size
        have hgg : g ≠ gb := by omega
        have hS0 : SKeep w5 gb { w5 with drawn := w5.drawn + 1 } := fun _ _ _ _ => rfl
        have hd0 : Below w5.heap.size w5 { w5 with drawn := w5.drawn + 1 } := (Below.refl _ _).drew
        have HD := nxt HB hd0
        have OO := hidE (accAt_below AA.out hd0 AA.out.lt)
        have A0 := hidE (accAt_below AB.out hd0 AB.out.lt)
        obtain ⟨i0, i1, i2, i3, ifz, ilt⟩ := A0.out
        have HDD := hidE hd0
        clear hd0
        go_wp2_with fail
        refine wp_region_held (S := SKeep w5 gb) (by kernel_rfl) ?_
        generalize hwd : ({ w5 with drawn := w5.drawn + 1 } : World) = wd5 at *
        clear hwd
        refine held_take (i := 1) (v := .slice (some ⟨g, off, none⟩) l.length cap) (L := #[false, true, false, false, false, false, false, false, false, false, false]) rfl (by kernel_rfl) (by kernel_rfl) (by kernel_rfl) (fun c a w h => h) (Or.inl ⟨by kernel_rfl, fun wq h => by go_simp⟩) hS0 (by kernel_rfl) ?_
        refine held_take (i := 2) (v := .slice (some ⟨g, off, none⟩) l.length cap) (L := #[false, true, true, false, false, false, false, false, false, false, false]) rfl (by kernel_rfl) (by kernel_rfl) (by kernel_rfl) (fun c a w h => h) (Or.inl ⟨by kernel_rfl, fun wq h => by go_simp⟩) hS0 (by kernel_rfl) ?_
        refine held_take (i := 3) (v := .int .i64 (l.length : Int)) (L := #[false, true, true, true, false, false, false, false, false, false, false]) rfl (by kernel_rfl) (by kernel_rfl) (by kernel_rfl) (fun c a w h => h) (Or.inl ⟨by kernel_rfl, fun wq h => by go_simp⟩) hS0 (by kernel_rfl) ?_
        refine held_take (i := 4) (v := .int .i64 ((l.length : Int) - 1)) (L := #[false, true, true, true, true, false, false, false, false, false, false]) rfl (by kernel_rfl) (by kernel_rfl) (by kernel_rfl) (fun c a w h => h) (Or.inl ⟨by kernel_rfl, fun wq h => by go_simp; exact wrapIn _ (by omega) (by omega)⟩) hS0 (by kernel_rfl) ?_
        refine held_take (i := 5) (v := .int .i64 (n : Int)) (L := #[false, true, true, true, true, true, false, false, false, false, false]) rfl (by kernel_rfl) (by kernel_rfl) (by kernel_rfl) (fun c a w h => h) (Or.inl ⟨by kernel_rfl, fun wq h => by go_simp⟩) hS0 (by kernel_rfl) ?_
        refine held_take (i := 6) (v := .int .i64 (d : Int)) (L := #[false, true, true, true, true, true, true, false, false, false, false]) rfl (by kernel_rfl) (by kernel_rfl) (by kernel_rfl) (fun c a w h => h) (Or.inl ⟨by kernel_rfl, fun wq h => by have q9 := HDL.out; go_simp; exact wrapIn _ (by omega) (by omega)⟩) hS0 (by kernel_rfl) ?_
        refine held_take (i := 7) (v := .pointer (some ⟨g, off + d * 2, none⟩)) (L := #[false, true, true, true, true, true, true, true, false, false, false]) rfl (by kernel_rfl) (by kernel_rfl) (by kernel_rfl) (fun c a w h => h) (Or.inl ⟨by kernel_rfl, fun wq h => by go_simp⟩) hS0 (by kernel_rfl) ?_
        refine held_take (i := 8) (v := .agg #[.int .i64 r1, .int .i64 r2]) (L := #[false, true, true, true, true, true, true, true, true, false, false]) rfl (by kernel_rfl) (by kernel_rfl) (by kernel_rfl) (fun c a w h => h) (Or.inl ⟨by kernel_rfl, fun wq h => by have q := h g (off + d * 2) hgl hgg; have q2 := h g (off + d * 2 + 1) hgl hgg; rw [F1.out] at q; rw [F2.out] at q2; go_simp⟩) hS0 (by kernel_rfl) ?_
        refine held_go (i := 0) (L := #[true, true, true, true, true, true, true, true, true, false, false]) (by kernel_rfl) rfl (by kernel_rfl) (by kernel_rfl) ?_
        intro K' hK
        go_simp
        refine hK _ _ ⟨hS0, ?_⟩
        clear hK
        refine held_go (i := 9) (L := #[true, true, true, true, true, true, true, true, true, true, false]) (by kernel_rfl) rfl (by kernel_rfl) (by kernel_rfl) ?_
        intro K' hK
        go_simp
        refine (gadd_any k y1 y2 y3 r1 r2 _ c1 c2 nb1 nb3).mono ?_
        rintro e wc5 ⟨rfl, hb⟩
        have SK := hidE (keep_below gb (HDD.out.trans (hb.mono HDD.out.size)))
        refine hK _ _ ⟨SK.out, ?_⟩
        clear hK i0 i1 i2 i3 ifz ilt
        have HC := nxt HD hb
        have OC := hidE (accAt_below OO.out hb OO.out.lt)
        have AC := hidE (accAt_below A0.out hb A0.out.lt)
        obtain ⟨i0, i1, i2, i3, ifz, ilt⟩ := AC.out
        clear hb
        generalize gstep k (y1, y2, y3) (r1, r2) = Y at *
        obtain ⟨u1, u2, u3⟩ := Y
        unfold aggA
        simp only
        refine held_go (i := 10) (L := #[true, true, true, true, true, true, true, true, true, true, true]) (by kernel_rfl) rfl (by kernel_rfl) (by kernel_rfl) ?_
        intro K' hK
        go_simp
        refine hK _ _ ⟨keep_set4 SK.out, ?_⟩
        clear hK
        refine wpAnyH_done (by kernel_rfl) ?_ _
        have AB := hidE (accAt_set (k' := k) (n' := u1) (s' := u2) (b' := u3) AC.out)
        have AA := hidE (accAt_far (k' := k) (n' := u1) (s' := u2) (b' := u3) OC.out hab.symm)
        have HB := hidE (set4_below (k := k) (n := u1) (s := u2) (b := u3) HC.out hgb)
        unfold set4 at AB AA HB
        clear i0 i1 i2 i3 ifz ilt hS0 HD OO A0 HDD SK HC OC AC
        go_wp2_with fail
        go_roundw
        case rel => exact ⟨n + 1, by omega, by go_num, HB, by rw [T1.out]; exact AA, by rw [T2.out]; exact AB⟩
        case measure => simp [intOf]; omega
end Go.Proofs.Ytchddjlbjldnpab

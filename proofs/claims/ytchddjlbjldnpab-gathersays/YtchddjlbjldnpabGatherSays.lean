/- The law GatherSays, over this seat's translation. Conditions: none. -/
import Derived.Test.YtchddjlbjldnpabGathered
namespace Go.Proofs.Ytchddjlbjldnpab
open Go.ChangeShapes Go.WideShapes Go.ChangeAt Go.RowKit
set_option linter.unusedVariables false
set_option linter.unusedSimpArgs false
attribute [local go_sem ↓] eql_value neq_value

theorem rowV_take {w : World} {l : List V2} {ao : Option Addr} {cap : Nat} (h : RowG w (.slice ao l.length cap) 2 l.length (rowV l)) (n : Nat) (hn : n ≤ l.length) :
    RowG w (.slice ao n cap) 2 n (rowV (l.take n)) := by
  obtain ⟨h0, h1⟩ := h
  have hlen : (l.take n).length = n := by simp; omega
  refine ⟨by rw [rowV_len, hlen], ?_⟩
  rcases h1 with ⟨-, h⟩ | ⟨g, off, cap', e, c1, c2, c3, c4⟩
  · exact .inl ⟨⟨_, _, by rw [show n = 0 from by omega]⟩, by omega⟩
  · simp only [Value.slice.injEq] at e
    obtain ⟨rfl, -, rfl⟩ := e
    refine .inr ⟨g, off, cap, rfl, by omega, c2, c3, fun j hj => ?_⟩
    rw [c4 j (by omega)]
    have hs : rowV l = rowV (l.take n) ++ rowV (l.drop n) := by rw [← rowV_app, List.take_append_drop]
    rw [hs, List.getElem?_append_left (by rw [rowV_len, hlen]; exact hj)]

set_option maxRecDepth 100000 in
theorem gathers_closed (w : World) : Calls Try.prog 22 #[] w fun e w' => e = .returned (.bool true) ∧ Below w.heap.size w w' := by
  have N1 := hidE (fun w => gnew_any 3 w)
  have A1 := hidE (fun w => gadd_any 3 0 0 0 1 3 w (by decide) (by decide) (by decide) (by decide))
  have A2 := hidE (fun w => gadd_any 3 1 3 0 0 0 w (by decide) (by decide) (by decide) (by decide))
  have A3 := hidE (fun w => gadd_any 3 1 3 0 1 4 w (by decide) (by decide) (by decide) (by decide))
  have A4 := hidE (fun w => gvalue_any 3 1 7 0 w (by decide) (by decide))
  have e1 : gstep 3 (0, 0, 0) (1, 3) = (1, 3, 0) := by simp [gstep, RowKit.wrap64]
  have e2 : gstep 3 (1, 3, 0) (0, 0) = (1, 3, 0) := by decide
  have e3 : gstep 3 (1, 3, 0) (1, 4) = (1, 7, 0) := by simp [gstep, RowKit.wrap64]
  have e4 : gval 3 (1, 7, 0) = (1, 7) := by decide
  rw [e1] at A1
  rw [e2] at A2
  rw [e3] at A3
  rw [e4] at A4
  unfold aggA at N1 A1 A2 A3
  simp only at N1 A1 A2 A3 A4
  clear e1 e2 e3 e4
  go_enter Try.func22, Try.ntmps22
  go_wp2_with fail
  refine (N1.out _).mono ?_
  rintro e wn ⟨rfl, hb⟩
  have HB := hidE hb
  obtain ⟨hc, hf⟩ := rules HB
  clear hb
  go_wp2_with fail
  refine (A1.out _).mono ?_
  rintro e wn ⟨rfl, hb⟩
  have HB := nxt HB hb
  obtain ⟨hc, hf⟩ := rules HB
  clear hb
  go_wp2_with fail
  refine (A2.out _).mono ?_
  rintro e wn ⟨rfl, hb⟩
  have HB := nxt HB hb
  obtain ⟨hc, hf⟩ := rules HB
  clear hb
  go_wp2_with fail
  refine (A3.out _).mono ?_
  rintro e wn ⟨rfl, hb⟩
  have HB := nxt HB hb
  obtain ⟨hc, hf⟩ := rules HB
  clear hb
  go_wp2_with fail
  refine (A4.out _).mono ?_
  rintro e wz ⟨rfl, hb⟩
  have HB := nxt (nxta HB _) hb
  clear hb
  go_wp2_with fail
  go_ret
  exact ⟨rfl, HB.out⟩

set_option maxRecDepth 100000 in
set_option maxHeartbeats 1000000 in
theorem gatherSays_walk (k : Int) (l : List V2) (u : Value) (w : World) (hu : RowG w u 2 l.length (rowV l)) (hl : l.length ≤ maxLen) :
    Calls Try.prog 5 #[.int .i64 k, u] w fun e w' => e = .returned (.bool true) ∧ Below w.heap.size w w' := by
  obtain ⟨ao, cap, rfl⟩ := rowG_shape hu
  have HU := hidE hu
  clear hu
  unfold maxLen at hl
  go_enter Try.func5, Try.ntmps5
  go_wp2_with fail
  refine (gathers_closed _).mono ?_
  rintro e wn ⟨rfl, hb⟩
  have HB := hidE hb
  clear hb
  by_cases c3 : l.length ≤ 60
  case neg => go_wp2_with fail; go_ret; exact ⟨rfl, HB.out⟩
  have d3 : decide (60 < l.length) = false := by simp; omega
  have d4 : decide (60 < (l.length : Int)) = false := by simp; omega
  by_cases c1 : 1 ≤ k
  case neg => go_wp2_with fail; go_ret; exact ⟨rfl, HB.out⟩
  have d1 : decide (k < 1) = false := by simp; omega
  by_cases c2 : k ≤ 5
  case neg => go_wp2_with fail; go_ret; exact ⟨rfl, HB.out⟩
  have d2 : decide (5 < k) = false := by simp; omega
  have GN := hidE (fun w => gnew_any k w)
  unfold aggA at GN
  simp only at GN
  go_wp2_with fail
  refine (GN.out _).mono ?_
  rintro e wa ⟨rfl, hb⟩
  have HA := nxt HB hb
  have HB := nxta (nxt HB hb) (.cells #[.int .i64 k, .int .i64 0, .int .i64 0, .int .i64 0] 55)
  have AA := hidE (accAt_new wa k 0 0 0)
  have hga : w.heap.size ≤ wa.heap.size := by have := HA.out.size; omega
  clear hb
  go_wp2_with fail
  generalize (wa.alloc (.cells #[.int .i64 k, .int .i64 0, .int .i64 0, .int .i64 0] 55)) = w0 at *
  generalize wa.heap.size = ga at *
  clear GN HA
  go_loopw [7] (fun i wr => ∃ n : Nat, n ≤ l.length ∧ i = .int .i64 n ∧ Hid (Below w.heap.size w wr) ∧ Hid (AccAt wr ga k (gfold k (l.take n)).1 (gfold k (l.take n)).2.1 (gfold k (l.take n)).2.2)) (fun i _ => l.length - (intOf i).toNat)
  case atStart => exact ⟨0, Nat.zero_le _, rfl, HB, AA⟩
  case round =>
    clear HB AA
    obtain ⟨n, hn, rfl, HB, AA⟩ := hrel
    by_cases hlt : n < l.length
    case neg =>
      have hnl : n = l.length := by omega
      subst hnl
      have e1 : l.take l.length = l := List.take_length
      rw [e1] at AA
      have GV := hidE (fun w => gvalue_any k (gfold k l).1 (gfold k l).2.1 (gfold k l).2.2 w c1 c2)
      have GR : Hid (∀ p : World, Below w.heap.size w p → Calls Try.prog 26 #[.int .i64 k, .slice ao l.length cap] p fun e w' => e = .returned (.agg #[.int .i64 (rval k (rfold k l)).1, .int .i64 (rval k (rfold k l)).2]) ∧ Below p.heap.size p w') := fun p hb => gathered_any k l _ p c3 (rowG_below HU.out hb) c1 c2
      have EQ : gval k ((gfold k l).1, (gfold k l).2.1, (gfold k l).2.2) = rval k (rfold k l) := gval_is k c1 c2 l
      rw [EQ] at GV
      generalize rval k (rfold k l) = Z at *
      generalize gfold k l = T at *
      obtain ⟨x1, x2, x3⟩ := T
      obtain ⟨z1, z2⟩ := Z
      simp only at AA GV GR
      obtain ⟨i0, i1, i2, i3, -, ilt⟩ := AA.out
      clear e1 EQ
      go_wp2_with fail
      refine (GV.out _).mono ?_
      rintro e w1 ⟨rfl, hb⟩
      have HB := nxt HB hb
      clear hb
      go_wp2_with fail
      refine (GR.out _ HB.out).mono ?_
      rintro e w2 ⟨rfl, hb⟩
      have HB := nxt HB hb
      clear hb
      go_wp2_with fail
      go_ret
      exact ⟨rfl, HB.out⟩
    case pos =>
      have GR0 : Hid (∀ p : World, Below w.heap.size w p → Calls Try.prog 26 #[.int .i64 k, .slice ao n cap] p fun e w' => e = .returned (.agg #[.int .i64 (rval k (rfold k (l.take n))).1, .int .i64 (rval k (rfold k (l.take n))).2]) ∧ Below p.heap.size p w') := fun p hb => by
        have hlen : (l.take n).length = n := by simp; omega
        exact gathered_any k (l.take n) _ p (by omega) (by rw [hlen]; exact rowG_below (rowV_take HU.out n hn) hb) c1 c2
      have EQ : gval k ((gfold k (l.take n)).1, (gfold k (l.take n)).2.1, (gfold k (l.take n)).2.2) = rval k (rfold k (l.take n)) := gval_is k c1 c2 (l.take n)
      have GV := hidE (fun w => gvalue_any k (gfold k (l.take n)).1 (gfold k (l.take n)).2.1 (gfold k (l.take n)).2.2 w c1 c2)
      rw [EQ] at GV
      clear EQ
      obtain ⟨g, off, rfl, e1, e2, q1, q2, q3⟩ := rowV_in HU.out HB.out n hlt
      have hv := (List.getElem?_eq_getElem hlt)
      have T1 : Hid (gfold k (l.take (n + 1)) = gstep k (gfold k (l.take n)) l[n]) := by
        show _ = _
        rw [← gfold_snoc, List.take_add_one, hv]; rfl
      obtain ⟨na1, na2⟩ := gfold_n k (l.take n)
      have lt1 : (l.take n).length ≤ 60 := by simp; omega
      have na3 : (gfold k (l.take n)).1 ≤ 1000 := by omega
      clear hv na2 lt1
      generalize gfold k (l.take n) = T at *
      generalize rval k (rfold k (l.take n)) = Y at *
      generalize l[n] = vv at *
      obtain ⟨x1, x2, x3⟩ := T
      obtain ⟨y1, y2⟩ := Y
      obtain ⟨v1, v2⟩ := vv
      simp only at e1 e2 AA na1 na3 T1 GV GR0
      unfold maxLen at q2
      have GG := hidE (fun w => good_any v1 v2 w)
      by_cases hok : vok v1 v2 = true
      case neg =>
        have hok' : vok v1 v2 = false := by simpa using hok
        rw [hok'] at GG
        go_wp2_with fail
        refine (GG.out _).mono ?_
        rintro e w1 ⟨rfl, hb⟩
        have HB := nxt HB hb
        clear hb
        go_wp2_with fail
        go_ret
        exact ⟨rfl, HB.out⟩
      rw [hok] at GG
      go_wp2_with fail
      refine (GG.out _).mono ?_
      rintro e w1 ⟨rfl, hb⟩
      have HB' := nxt HB hb
      have hgr : g < wr.heap.size := Nat.lt_of_lt_of_le q3 HB.out.size
      rw [← hb.cell (p := ⟨g, _, none⟩) hgr] at e1 e2
      have AA := hidE (accAt_below AA.out hb AA.out.lt)
      clear hb HB
      have HB := HB'
      clear HB'
      by_cases hk2 : 2 < k ∧ v1 = 2
      case pos =>
        obtain ⟨hk2, rfl⟩ := hk2
        have dk : decide (2 < k) = true := by simp; omega
        go_wp2_with fail
        go_ret
        exact ⟨rfl, HB.out⟩
      have hk3 : (decide (2 < k) = false) ∨ (decide (2 < k) = true ∧ (v1 == 2) = false) := by
        by_cases h2 : 2 < k
        · exact .inr ⟨by simp; omega, by simp; exact fun e => hk2 ⟨h2, e⟩⟩
        · exact .inl (by simp; omega)
      clear hk2
      have K1 : Hid (∀ p : Kin w1, Below w.heap.size w p.w) := fun p => (nxt HB p.h).out
      have kn := kin_some w1
      obtain ⟨kc, kf⟩ := kin_rules w1
      have HBw : Hid (Below w1.heap.size w1 w1) := Below.refl _ _
      have hg1 : g < w1.heap.size := Nat.lt_of_lt_of_le q3 HB.out.size
      obtain ⟨i0, i1, i2, i3, -, ilt⟩ := AA.out
      rcases hk3 with dk | ⟨dk, dv⟩
      all_goals
        go_wp2_with fail
        refine wp_region_kin HBw (by kernel_rfl) (by kernel_rfl) ?_
        repeat (go_big_quiet_step ((first | (go_at_call 25; exact kin_of (GV.out _)) | (go_at_call 26; exact kin_of (GR0.out _ (K1.out _))))))
        refine wpQuiet_nil ?_
        rintro _ ⟨pk, rfl⟩
        have HB := nxt HB pk.h
        have AA := hidE (accAt_below AA.out pk.h AA.out.lt)
        rw [← pk.h.cell (p := ⟨g, _, none⟩) hg1] at e1 e2
        clear kc kf kn HBw i0 i1 i2 i3 ilt K1 hg1
        generalize pk.w = w5 at *
        clear pk
        have hS0 : SKeep w5 ga { w5 with drawn := w5.drawn + 1 } := fun _ _ _ _ => rfl
        have hd0 : Below w5.heap.size w5 { w5 with drawn := w5.drawn + 1 } := (Below.refl _ _).drew
        have HD := nxt HB hd0
        have A0 := hidE (accAt_below AA.out hd0 AA.out.lt)
        obtain ⟨i0, i1, i2, i3, ifz, ilt⟩ := A0.out
        have hgl : g < w5.heap.size := Nat.lt_of_lt_of_le q3 HB.out.size
        have hgg : g ≠ ga := by omega
        have HDD := hidE hd0
        clear hd0
        go_wp2_with fail
        refine wp_region_held (S := SKeep w5 ga) (by kernel_rfl) ?_
        generalize hwd : ({ w5 with drawn := w5.drawn + 1 } : World) = wd at *
        clear hwd
        refine held_take (i := 1) (v := .slice (some ⟨g, off, none⟩) l.length cap) (L := #[false, true, false, false, false, false, false]) rfl (by kernel_rfl) (by kernel_rfl) (by kernel_rfl) (fun c a w h => h) (Or.inl ⟨by kernel_rfl, fun wq h => by go_simp⟩) hS0 (by kernel_rfl) ?_
        refine held_take (i := 2) (v := .int .i64 (n : Int)) (L := #[false, true, true, false, false, false, false]) rfl (by kernel_rfl) (by kernel_rfl) (by kernel_rfl) (fun c a w h => h) (Or.inl ⟨by kernel_rfl, fun wq h => by go_simp⟩) hS0 (by kernel_rfl) ?_
        refine held_take (i := 3) (v := .pointer (some ⟨g, off + n * 2, none⟩)) (L := #[false, true, true, true, false, false, false]) rfl (by kernel_rfl) (by kernel_rfl) (by kernel_rfl) (fun c a w h => h) (Or.inl ⟨by kernel_rfl, fun wq h => by go_simp⟩) hS0 (by kernel_rfl) ?_
        refine held_take (i := 4) (v := .agg #[.int .i64 v1, .int .i64 v2]) (L := #[false, true, true, true, true, false, false]) rfl (by kernel_rfl) (by kernel_rfl) (by kernel_rfl) (fun c a w h => h) (Or.inl ⟨by kernel_rfl, fun wq h => by have q := h g (off + n * 2) hgl hgg; have q2 := h g (off + n * 2 + 1) hgl hgg; rw [e1] at q; rw [e2] at q2; go_simp⟩) hS0 (by kernel_rfl) ?_
        refine held_go (i := 0) (L := #[true, true, true, true, true, false, false]) (by kernel_rfl) rfl (by kernel_rfl) (by kernel_rfl) ?_
        intro K' hK
        go_simp
        refine hK _ _ ⟨hS0, ?_⟩
        clear hK
        refine held_go (i := 5) (L := #[true, true, true, true, true, true, false]) (by kernel_rfl) rfl (by kernel_rfl) (by kernel_rfl) ?_
        intro K' hK
        go_simp
        refine (gadd_any k x1 x2 x3 v1 v2 _ c1 c2 na1 na3).mono ?_
        rintro e wc ⟨rfl, hb⟩
        have SK := hidE (keep_below ga (HDD.out.trans (hb.mono HDD.out.size)))
        refine hK _ _ ⟨SK.out, ?_⟩
        clear hK i0 i1 i2 i3 ifz ilt
        have HC := nxt HD hb
        have AC := hidE (accAt_below A0.out hb A0.out.lt)
        obtain ⟨i0, i1, i2, i3, ifz, ilt⟩ := AC.out
        clear hb
        generalize gstep k (x1, x2, x3) (v1, v2) = Z at *
        obtain ⟨z1, z2, z3⟩ := Z
        unfold aggA
        simp only
        refine held_go (i := 6) (L := #[true, true, true, true, true, true, true]) (by kernel_rfl) rfl (by kernel_rfl) (by kernel_rfl) ?_
        intro K' hK
        go_simp
        refine hK _ _ ⟨keep_set4 SK.out, ?_⟩
        clear hK
        refine wpAnyH_done (by kernel_rfl) ?_ _
        have AA := hidE (accAt_set (k' := k) (n' := z1) (s' := z2) (b' := z3) AC.out)
        have HB := hidE (set4_below (k := k) (n := z1) (s := z2) (b := z3) HC.out hga)
        unfold set4 at AA HB
        clear i0 i1 i2 i3 ifz ilt hS0 HD A0 HDD SK HC AC
        go_wp2_with fail
        go_roundw
        case rel => exact ⟨n + 1, by omega, by go_num, HB, by rw [T1.out]; exact AA⟩
        case measure => simp [intOf]; omega
end Go.Proofs.Ytchddjlbjldnpab

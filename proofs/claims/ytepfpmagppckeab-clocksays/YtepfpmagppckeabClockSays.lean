/- The law ClockSays, over this seat's translation. Conditions: none. -/
import Derived.Test.YtepfpmagppckeabTopC
import Derived.Test.YtepfpmagppckeabSame
import Derived.Test.YtepfpmagppckeabEng1
namespace Go.Proofs.Ytepfpmagppckeab
open Go.ChangeShapes Go.WideShapes Go.ChangeAt Go.RowKit
set_option linter.unusedVariables false
set_option linter.unusedSimpArgs false

theorem op_max {P : Program} {Q : Exit → Act → World → Prop} {K : Act → World → Prop} {o : Oper} {a : Act} {w : World} {t : TypeId} {p q : Int} (s x : Operand) (hop : o.op = Op.call { callee := Callee.builtin Builtin.max, args := #[s, x], argTypes := #[t, t] })
    (hs : a.eval s = .int .i64 p) (hx : a.eval x = .int .i64 q) (hK : K (a.put o.dst (.int .i64 (max p q))) w) : Oper.wp P o a w K Q := by
  have hr : (Builtin.max_ #[t, t] o.type #[.int .i64 p, .int .i64 q]).run P w = .ok (.int .i64 (max p q)) w := by
    by_cases h : p < q
    · have e : max p q = q := by omega
      have d : decide (p < q) = true := by simp [h]
      rw [e]
      simp [go_sem, Builtin.max_, Builtin.max2, d, h]
    · have e : max p q = p := by omega
      have d : decide (p < q) = false := by simp; omega
      rw [e]
      simp [go_sem, Builtin.max_, Builtin.max2, d, h]
  unfold Oper.wp
  simp [execOp, hop, resolve, invoke, builtin, hs, hx, hr, Result.andThen]
  exact hK

/-- the part of an engine's block that tells how far it is known -/
structure EFar (B0 : Nat) (w : World) (ge gf P cap : Nat) (delay : Int) (F : List Int) : Prop where
  c8 : w.cell? ⟨ge, 8, none⟩ = some (.slice (some ⟨gf, 0, none⟩) P cap)
  c5 : w.cell? ⟨ge, 5, none⟩ = some (.int .i64 delay)
  lt : ge < w.heap.size
  fl : gf < w.heap.size
  fo : w.ownsRow B0 3 1 (.slice (some ⟨gf, 0, none⟩) P cap) P (F.map (Value.int .i64))
  nf : ge ≠ gf
  len : F.length = P
theorem efar_below {B0 ge gf P cap : Nat} {delay : Int} {F : List Int} {w w' : World} (h : EFar B0 w ge gf P cap delay F) (hb : Below w.heap.size w w') : EFar B0 w' ge gf P cap delay F :=
  ⟨(hb.cell (p := ⟨ge, 8, none⟩) h.lt).trans h.c8, (hb.cell (p := ⟨ge, 5, none⟩) h.lt).trans h.c5, Nat.lt_of_lt_of_le h.lt hb.size, Nat.lt_of_lt_of_le h.fl hb.size, own_keep h.fo hb (Nat.le_refl _), h.nf, h.len⟩
theorem efar_var {B0 ge gf P cap b : Nat} {delay : Int} {F : List Int} {w : World} (h : EFar B0 w ge gf P cap delay F) (h1 : b ≠ ge) (h2 : b ≠ gf) (v : Value) : EFar B0 (w.setCell ⟨b, 0, none⟩ v) ge gf P cap delay F :=
  ⟨(cell_other (.inl h1)).trans h.c8, (cell_other (.inl h1)).trans h.c5, by simpa [World.setCell] using h.lt, by simpa [World.setCell] using h.fl, owns_far2 h.fo h2 0 v, h.nf, h.len⟩
theorem efar_put {B0 ge gf P cap : Nat} {delay : Int} {F : List Int} {w : World} (h : EFar B0 w ge gf P cap delay F) (p : Nat) (x : Int) : EFar B0 (w.setCell ⟨gf, p, none⟩ (.int .i64 x)) ge gf P cap delay (F.set p x) := by
  refine ⟨(cell_other (.inl h.nf.symm)).trans h.c8, (cell_other (.inl h.nf.symm)).trans h.c5, by simpa [World.setCell] using h.lt, by simpa [World.setCell] using h.fl, ?_, h.nf, by simpa using h.len⟩
  have := owns_set h.fo p (.int .i64 x)
  rw [← List.map_set] at this
  exact this
theorem efar_row {B0 ge gf P cap : Nat} {delay : Int} {F : List Int} {w : World} (h : EFar B0 w ge gf P cap delay F) : RowC w (.slice (some ⟨gf, 0, none⟩) P cap) F := by
  have := rowG_of_owns h.fo
  unfold RowC
  rw [h.len]
  exact this
theorem clk_put {B0 b bo P g cap g' : Nat} {G : List Int} {w : World} (h : Clk B0 w b bo P g cap G) (h1 : g' ≠ b) (h2 : g' ≠ g) (o : Nat) (v : Value) : Clk B0 (w.setCell ⟨g', o, none⟩ v) b bo P g cap G :=
  ⟨var_far h.va h1 o v, owns_far2 h.ow h2 o v, h.n1, h.n2, h.len⟩
theorem rowI_of {w : World} {v : Value} {G : List Int} (h : RowC w v G) (h0 : 0 < G.length) : RowI w v G := by
  obtain ⟨g', off', cap', e, h1, h2, h3, h4⟩ := rowC_at h h0
  exact .inr ⟨g', off', cap', e, h1, h2, h3, h4⟩
theorem upto_part (G : List Int) (delay : Int) (h : 0 < G.length) : uptoV G delay = partV (minOf G) delay := by
  obtain ⟨i, hi, he⟩ := min_at G h
  unfold uptoV partV
  by_cases hm : minOf G ≤ -1
  · rw [if_pos hm, if_neg]
    rw [List.all_eq_true]
    intro h9
    have h8 := h9 (G.getD i 0) (by rw [List.getD_eq_getElem?_getD, List.getElem?_eq_getElem hi]; exact List.getElem_mem hi)
    simp at h8
    rw [List.getD_eq_getElem?_getD, List.getElem?_eq_getElem hi] at he
    simp [hi] at h8 he
    omega
  · rw [if_neg hm, if_pos]
    rw [List.all_eq_true]
    intro z hz
    obtain ⟨k, hk, rfl⟩ := List.getElem_of_mem hz
    have h8 := min_le G k hk
    rw [List.getD_eq_getElem?_getD, List.getElem?_eq_getElem hk] at h8
    simp at h8 ⊢
    omega

set_option maxRecDepth 100000 in
theorem clocks_true (w : World) : Calls Try.prog 14 #[] w fun e w' => e = .returned (.bool true) ∧ Below w.heap.size w w' := by
  have N2 := hidE (fun w => cnew_any 2 w (by decide) (by decide))
  have S1 : Hid (∀ w v, RowC w v (noneL 2) → Calls Try.prog 18 #[.agg #[v], .int .i64 0, .int .i64 9] w fun e w' => ∃ u, e = .returned (.agg #[u]) ∧ w'.ownsRow w.heap.size 3 1 u 2 [.int .i64 9, .int .i64 (-1)] ∧ Below w.heap.size w w') := fun w v h => see_any (noneL 2) v 0 9 w (by decide) (by decide) h
  have S2 : Hid (∀ w v, RowC w v [9, -1] → Calls Try.prog 18 #[.agg #[v], .int .i64 1, .int .i64 5] w fun e w' => ∃ u, e = .returned (.agg #[u]) ∧ w'.ownsRow w.heap.size 3 1 u 2 [.int .i64 9, .int .i64 5] ∧ Below w.heap.size w w') := fun w v h => see_any [9, -1] v 1 5 w (by decide) (by decide) h
  have A1 : Hid (∀ w v, RowC w v [9, 5] → Calls Try.prog 19 #[.agg #[v], .int .i64 2] w fun e w' => e = .returned (.tuple #[.int .i64 3, .bool true]) ∧ Below w.heap.size w w') := fun w v h => by
    have q := all_any [9, 5] v 2 w (by decide) (by decide) h
    have e : partV (minOf [9, 5]) 2 = .tuple #[.int .i64 3, .bool true] := by rw [show minOf [9, 5] = 5 from by decide]; simp [partV, RowKit.wrap64]
    rw [e] at q
    exact q
  go_enter Try.func14, Try.ntmps14
  go_wp2_with fail
  refine (N2.out _).mono ?_
  rintro e w1 ⟨u1, rfl, ho, hb⟩
  have HB := hidE hb
  have R1 := rowG_of_owns ho
  obtain ⟨g1, cap1, rfl, -, -⟩ := owns_head ho (by decide)
  clear hb ho
  have l1 : (noneL 2).length = 2 := rfl
  rw [l1]
  go_wp2_with fail
  have hA1 := (Below.refl w1.heap.size w1).alloc (Nat.le_refl _) (.cells #[.slice (some ⟨g1, 0, none⟩) 2 cap1] 29)
  have hlt1 : w.heap.size ≤ w1.heap.size := HB.out.size
  refine (S1.out _ _ (rowG_below R1 hA1)).mono ?_
  rintro e w2 ⟨u2, rfl, ho, hb⟩
  have VC := hidE (var_below (var_new w1 (.slice (some ⟨g1, 0, none⟩) 2 cap1) 29) hb (by simp))
  have HB := nxt (nxta HB (.cells #[.slice (some ⟨g1, 0, none⟩) 2 cap1] 29)) hb
  have R2 : RowC w2 u2 [9, -1] := rowG_of_owns ho
  obtain ⟨g2, cap2, rfl, -, -⟩ := owns_head ho (by decide)
  clear hb ho hA1 R1
  generalize w1.heap.size = bc at *
  go_wp2_with fail
  refine (S2.out _ _ R2).mono ?_
  rintro e w3 ⟨u3, rfl, ho, hb⟩
  have hbc2 := VC.out.lt
  have VC := hidE (var_below VC.out hb VC.out.lt)
  have HB := nxt HB hb
  obtain ⟨g3, cap3, rfl, hg3, -⟩ := owns_head ho (by decide)
  have hne : bc ≠ g3 := by omega
  have R3 : RowC w3 (.slice (some ⟨g3, 0, none⟩) 2 cap3) [9, 5] := rowG_of_owns ho
  have hr3 : ∀ v, RowC (w3.setCell ⟨bc, 0, none⟩ v) (.slice (some ⟨g3, 0, none⟩) 2 cap3) [9, 5] := fun v => rowG_of_owns (owns_far2 ho hne 0 v)
  have HR3 := hidE hr3
  clear hb ho R2 R3 hr3
  obtain ⟨k0, kf, kl⟩ := VC.out
  go_wp2_with fail
  refine (A1.out _ _ (HR3.out _)).mono ?_
  rintro e w4 ⟨rfl, hb⟩
  have HB := nxt (hidE (HB.out.setCell (p := ⟨bc, 0, none⟩) hlt1 _)) hb
  clear hb
  go_wp2_with fail
  go_ret
  exact ⟨rfl, HB.out⟩


set_option maxRecDepth 100000 in
set_option maxHeartbeats 2000000 in
theorem clockSays_walk (parts delay : Int) (l : List V2) (u : Value) (w : World) (hu : RowG w u 2 l.length (rowV l)) (hl : l.length ≤ maxLen) :
    Calls Try.prog 4 #[.int .i64 parts, u, .int .i64 delay] w fun e w' => e = .returned (.bool true) ∧ Below w.heap.size w w' := by
  obtain ⟨ao, cap, rfl⟩ := rowG_shape hu
  have HU := hidE hu
  clear hu
  unfold maxLen at hl
  go_enter Try.func4, Try.ntmps4
  go_wp2_with fail
  refine (clocks_true _).mono ?_
  rintro e w1 ⟨rfl, hb⟩
  have HB := hidE hb
  clear hb
  by_cases c1 : l.length ≤ 60
  case neg =>
    have d1' : decide (60 < (l.length : Int)) = true := by simp; omega
    go_wp2_with fail
    go_ret
    exact ⟨rfl, HB.out⟩
  have d1' : decide (60 < (l.length : Int)) = false := by simp; omega
  by_cases c2 : 0 ≤ delay
  case neg => go_wp2_with fail; go_ret; exact ⟨rfl, HB.out⟩
  have d2 : decide (delay < 0) = false := by simp; omega
  by_cases c3 : delay ≤ 1000
  case neg => go_wp2_with fail; go_ret; exact ⟨rfl, HB.out⟩
  have d3 : decide (1000 < delay) = false := by simp; omega
  by_cases c4 : parts < 1 ∨ 3 < parts
  · have NB := hidE (fun w => cnew_bad parts w c4)
    have SM := hidE (fun w => same_err 1 1 w (by decide))
    go_wp2_with fail
    refine (NB.out _).mono ?_
    rintro e w2 ⟨rfl, hb⟩
    have HB := nxt HB hb
    clear hb
    have HB := nxta HB (.cells #[.slice none 0 0] 29)
    rcases c4 with c4 | c4
    · have d4 : decide (parts < 1) = true := by simp; omega
      go_wp2_with fail
      refine (SM.out _).mono ?_
      rintro e w3 ⟨rfl, rfl⟩
      go_wp2_with fail
      go_ret
      exact ⟨rfl, HB.out⟩
    · have d4 : decide (parts < 1) = false := by simp; omega
      have d5 : decide (3 < parts) = true := by simp; omega
      go_wp2_with fail
      refine (SM.out _).mono ?_
      rintro e w3 ⟨rfl, rfl⟩
      go_wp2_with fail
      go_ret
      exact ⟨rfl, HB.out⟩
  have d4 : decide (parts < 1) = false := by simp; omega
  have d5 : decide (3 < parts) = false := by simp; omega
  obtain ⟨P, rfl⟩ : ∃ P : Nat, parts = (P : Int) := ⟨parts.toNat, by omega⟩
  have p1 : 1 ≤ P := by omega
  have p3 : P ≤ 3 := by omega
  clear c4
  have NP := hidE (fun w => cnew_any P w p1 p3)
  rw [none_len] at NP
  go_wp2_with fail
  refine (NP.out _).mono ?_
  rintro e w4 ⟨u4, rfl, ho, hb⟩
  obtain ⟨g4, cap4, rfl, hg4a, hg4b⟩ := owns_head ho p1
  have hw1 : w.heap.size ≤ w1.heap.size := HB.out.size
  have HB := nxt HB hb
  have hw4 : w1.heap.size ≤ w4.heap.size := hb.size
  have hA4 := (Below.refl w4.heap.size w4).alloc (Nat.le_refl _) (.cells #[.slice (some ⟨g4, 0, none⟩) P cap4] 29)
  have VC := hidE (var_new w4 (.slice (some ⟨g4, 0, none⟩) P cap4) 29)
  have HOC := hidE (own_keep ho hA4 (Nat.le_refl _))
  have HB := nxt HB hA4
  clear ho hb NP
  have NE := hidE (fun w => newEng_any P none none none 0 0 0 0 0 0 0 0 delay 0 w p1 p3)
  go_wp2_with fail
  clear hA4
  have hsz4 : (w4.alloc (.cells #[.slice (some ⟨g4, 0, none⟩) P cap4] 29)).heap.size = w4.heap.size + 1 := by simp
  refine (NE.out _).mono ?_
  rintro e w6 ⟨rv, fv, rfl, he, hb⟩
  generalize hW5 : (w4.alloc (.cells #[.slice (some ⟨g4, 0, none⟩) P cap4] 29)) = w5 at *
  clear hW5
  have VC := hidE (var_below VC.out hb VC.out.lt)
  have HOC := hidE (own_keep HOC.out hb (Nat.le_refl _))
  have HB := nxt HB hb
  obtain ⟨gf, capf, rfl, hgf1, hgf2⟩ := owns_head he.fo p1
  have EF : Hid (EFar w.heap.size w6 (w5.heap.size + 1) gf P capf delay (noneL P)) := ⟨he.bk.c 8 (by simp), he.bk.c 5 (by simp), he.bk.lt, hgf2, owns_base he.fo (by omega), by omega, none_len P⟩
  have CC : Hid (Clk w.heap.size w6 w4.heap.size (w5.heap.size + 1) P g4 cap4 (noneL P)) := ⟨VC.out, owns_base HOC.out hw1, by omega, by omega, none_len P⟩
  obtain ⟨ge, hge⟩ : ∃ ge, w5.heap.size + 1 = ge := ⟨_, rfl⟩
  obtain ⟨bc, hbc⟩ : ∃ bc, w4.heap.size = bc := ⟨_, rfl⟩
  rw [hge] at EF CC
  rw [hbc] at CC
  have hgfc : g4 ≠ gf := by omega
  have hbg : bc ≠ ge := by omega
  have hbf : bc ≠ gf := by omega
  have hbw : w.heap.size ≤ bc := by omega
  have hgew : w.heap.size ≤ ge := by omega
  have hgfw : w.heap.size ≤ gf := by omega
  rw [hge, hbc]
  clear hb he NE HOC VC hge hbc hgf1 hgf2 hsz4 hw4 hg4a hg4b hw1 d4 d5
  go_wp2_with fail
  go_loopw [11] (fun i wr => ∃ (n gc capc : Nat) (G : List Int), n ≤ l.length ∧ gc ≠ gf ∧ i = .int .i64 n ∧ Hid (Below w.heap.size w wr) ∧ Hid (Clk w.heap.size wr bc ge P gc capc G) ∧ Hid (EFar w.heap.size wr ge gf P capf delay G)) (fun i _ => l.length - (intOf i).toNat)
  case atStart => exact ⟨0, _, _, _, Nat.zero_le _, hgfc, rfl, HB, CC, EF⟩
  case round =>
    clear HB CC EF hgfc
    obtain ⟨n, gc, capc, G, hn, hgfc, rfl, HB, CC, EF⟩ := hrel
    by_cases hlt : n < l.length
    case neg =>
      have hnl : n = l.length := by omega
      subst hnl
      go_wp2_with fail
      go_ret
      exact ⟨rfl, HB.out⟩
    case pos =>
      obtain ⟨g, off, rfl, e1, e2, q1, q2, q3⟩ := rowV_in HU.out HB.out n hlt
      generalize l[n] = vv at *
      obtain ⟨v1, v2⟩ := vv
      simp only at e1 e2
      have PV := hidE (placeN_is v1 P p1)
      generalize placeN v1 P = pv at *
      have hpv := PV.out.1
      have PV2 := PV.out.2
      clear PV
      unfold maxLen at q2
      have E2W := hidE ((HB.out.cell (p := ⟨g, off + n * 2 + 1, none⟩) q3).symm.trans e2)
      by_cases t1 : 0 ≤ v2
      case neg =>
        have dt1 : decide (v2 < 0) = true := by simp; omega
        go_wp2_with fail
        go_roundw
        case rel => exact ⟨n + 1, gc, capc, G, by omega, hgfc, by go_num, HB, CC, EF⟩
        case measure => simp [intOf]; omega
      have dt1 : decide (v2 < 0) = false := by simp; omega
      by_cases t2 : v2 ≤ 9999
      case neg =>
        have dt2 : decide (9999 < v2) = true := by simp; omega
        go_wp2_with fail
        go_roundw
        case rel => exact ⟨n + 1, gc, capc, G, by omega, hgfc, by go_num, HB, CC, EF⟩
        case measure => simp [intOf]; omega
      have dt2 : decide (9999 < v2) = false := by simp; omega
      obtain ⟨i0, ifz, ilt⟩ := CC.out.va
      go_wp2_with fail
      have hA := (Below.refl wr.heap.size wr).alloc (Nat.le_refl _) (.cells #[.slice (some ⟨gc, 0, none⟩) P capc] 29)
      have VW := hidE (var_new wr (.slice (some ⟨gc, 0, none⟩) P capc) 29)
      have CC := hidE (clk_below CC.out hA)
      have EF := hidE (efar_below EF.out hA)
      have HB := nxt HB hA
      have hnw : bc ≠ wr.heap.size := by omega
      clear hA i0 ifz ilt e1 e2
      generalize wr.alloc (.cells #[.slice (some ⟨gc, 0, none⟩) P capc] 29) = wa at *
      generalize wr.heap.size = bw at *
      have hS : Below wa.heap.size wa { wa with drawn := wa.drawn + 1 } := (Below.refl _ _).drew
      have HD := nxt HB hS
      have A0 := hidE (clk_below CC.out hS)
      have E0 := hidE (efar_below EF.out hS)
      have W0 := hidE (var_below VW.out hS VW.out.lt)
      obtain ⟨i0, ifz, ilt⟩ := CC.out.va
      have e2 : wa.cell? ⟨g, off + n * 2 + 1, none⟩ = some (.int .i64 v2) := (HB.out.cell (p := ⟨g, off + n * 2 + 1, none⟩) q3).trans E2W.out
      have hgl : g < wa.heap.size := Nat.lt_of_lt_of_le q3 HB.out.size
      refine wp_region_last (Below wa.heap.size wa) 8 (by kernel_rfl) ?_
      generalize hwd : ({ wa with drawn := wa.drawn + 1 } : World) = wd at *
      clear hwd
      refine last_take (i := 0) (v := .agg #[.slice (some ⟨gc, 0, none⟩) P capc]) (L := #[true, false, false, false, false, false, false, false, false]) [7, 8] rfl (by kernel_rfl) (by kernel_rfl) (by kernel_rfl) (by kernel_rfl) (by kernel_rfl) (fun c a w h => h) (Or.inl ⟨by kernel_rfl, fun wq hq => by have q := hq.cell (p := ⟨bc, 0, none⟩) (by omega); rw [i0] at q; go_simp⟩) hS (by kernel_rfl) ?_
      refine last_take (i := 1) (v := .int .i64 (pv : Int)) (L := #[true, true, false, false, false, false, false, false, false]) [7, 8] rfl (by kernel_rfl) (by kernel_rfl) (by kernel_rfl) (by kernel_rfl) (by kernel_rfl) (fun c a w h => h) (Or.inl ⟨by kernel_rfl, fun wq hq => by go_simp⟩) hS (by kernel_rfl) ?_
      refine last_take (i := 2) (v := .slice (some ⟨g, off, none⟩) l.length cap) (L := #[true, true, true, false, false, false, false, false, false]) [4, 5, 6, 7, 8] rfl (by kernel_rfl) (by kernel_rfl) (by kernel_rfl) (by kernel_rfl) (by kernel_rfl) (fun c a w h => h) (Or.inl ⟨by kernel_rfl, fun wq hq => by go_simp⟩) hS (by kernel_rfl) ?_
      refine last_take (i := 3) (v := .int .i64 (n : Int)) (L := #[true, true, true, true, false, false, false, false, false]) [4, 5, 6, 7, 8] rfl (by kernel_rfl) (by kernel_rfl) (by kernel_rfl) (by kernel_rfl) (by kernel_rfl) (fun c a w h => h) (Or.inl ⟨by kernel_rfl, fun wq hq => by go_simp⟩) hS (by kernel_rfl) ?_
      refine last_take (i := 4) (v := .pointer (some ⟨g, off + n * 2, none⟩)) (L := #[true, true, true, true, true, false, false, false, false]) [5, 6, 7, 8] rfl (by kernel_rfl) (by kernel_rfl) (by kernel_rfl) (by kernel_rfl) (by kernel_rfl) (fun c a w h => h) (Or.inl ⟨by kernel_rfl, fun wq hq => by go_simp⟩) hS (by kernel_rfl) ?_
      refine last_take (i := 5) (v := .pointer (some ⟨g, off + n * 2 + 1, none⟩)) (L := #[true, true, true, true, true, true, false, false, false]) [6, 7, 8] rfl (by kernel_rfl) (by kernel_rfl) (by kernel_rfl) (by kernel_rfl) (by kernel_rfl) (fun c a w h => h) (Or.inl ⟨by kernel_rfl, fun wq hq => by go_simp⟩) hS (by kernel_rfl) ?_
      refine last_take (i := 6) (v := .int .i64 v2) (L := #[true, true, true, true, true, true, true, false, false]) [7, 8] rfl (by kernel_rfl) (by kernel_rfl) (by kernel_rfl) (by kernel_rfl) (by kernel_rfl) (fun c a w h => h) (Or.inl ⟨by kernel_rfl, fun wq hq => by have q := hq.cell (p := ⟨g, off + n * 2 + 1, none⟩) hgl; rw [e2] at q; go_simp⟩) hS (by kernel_rfl) ?_
      refine last_go (i := 7) (L := #[true, true, true, true, true, true, true, true, false]) (by kernel_rfl) rfl (by kernel_rfl) (by kernel_rfl) ?_
      intro K' hK
      go_simp
      have hlG : G.length = P := A0.out.len
      refine (see_any G _ pv v2 _ (by omega) (by omega) (clk_row A0.out)).mono ?_
      rintro e wc ⟨u9, rfl, ho, hb⟩
      rw [see_len, hlG] at ho
      obtain ⟨g9, cap9, rfl, hx1, hx2⟩ := owns_head ho p1
      refine hK _ _ ⟨fun _ => hS.trans (hb.mono hS.size), ?_⟩
      clear hK
      have HC := nxt HD hb
      have AC := hidE (clk_below A0.out hb)
      have EC := hidE (efar_below E0.out hb)
      have WC := hidE (var_below W0.out hb W0.out.lt)
      have N1 : bc ≠ g9 := by have := A0.out.va.lt; omega
      have N2 : ge ≠ g9 := by have := E0.out.lt; omega
      have N3 : g9 ≠ gf := by have := E0.out.fl; omega
      have N4 : bw ≠ g9 := by have := W0.out.lt; omega
      have ow9 := owns_base ho (by have := HD.out.size; omega : w.heap.size ≤ _)
      have RW := hidE (rowG_below (clk_row A0.out) hb)
      obtain ⟨i0, ifz, ilt⟩ := AC.out.va
      clear hb ho hS
      refine last_go (i := 8) (L := #[true, true, true, true, true, true, true, true, true]) (by kernel_rfl) rfl (by kernel_rfl) (by kernel_rfl) ?_
      intro K' hK
      go_simp
      refine hK _ _ ⟨fun h => absurd rfl h, ?_⟩
      clear hK
      refine last_done (by kernel_rfl) ?_ _
      have CC := hidE (clk_set AC.out ow9 N1 N2 ((see_len _ _ _).trans hlG))
      have EF := hidE (efar_var EC.out hbg hbf (.slice (some ⟨g9, 0, none⟩) P cap9))
      have VW := hidE (var_far WC.out hnw 0 (.slice (some ⟨g9, 0, none⟩) P cap9))
      have OW := hidE (owns_far2 AC.out.ow AC.out.n1 0 (.slice (some ⟨g9, 0, none⟩) P cap9))
      have HB := hidE (HC.out.setCell (p := ⟨bc, 0, none⟩) hbw (.slice (some ⟨g9, 0, none⟩) P cap9))
      clear i0 ifz ilt HD A0 E0 W0 HC AC EC WC ow9 RW hx1 hx2 e2 hgl
      generalize wc.setCell ⟨bc, 0, none⟩ (.slice (some ⟨g9, 0, none⟩) P cap9) = w9 at *
      have hlG2 : (seeL G pv v2).length = P := CC.out.len
      have SN : Hid (∀ p : Kin w9, Calls Try.prog 12 #[.slice (some ⟨gc, 0, none⟩) P capc, .slice (some ⟨gf, 0, none⟩) P capf] p.w fun e w' => e = .returned (.bool true) ∧ Below p.w.heap.size p.w w') := fun p => by
        have r1 : RowC w9 (.slice (some ⟨gc, 0, none⟩) P capc) G := by
          have := rowG_of_owns OW.out
          unfold RowC
          rw [hlG]
          exact this
        have h9 := nums_any p.w _ _ G G (rowI_of (rowG_below r1 p.h) (by omega)) (rowI_of (rowG_below (efar_row EF.out) p.h) (by omega)) rfl
        rw [show decide (G = G) = true from by simp] at h9
        exact h9
      obtain ⟨i0, ifz, ilt⟩ := VW.out
      have k8 := EF.out.c8
      have hel := EF.out.lt
      have kn := kin_some w9
      obtain ⟨kc, kf⟩ := kin_rules w9
      have HR9 : Hid (Below w9.heap.size w9 w9) := Below.refl _ _
      go_wp2_with fail
      refine wp_region_kin HR9 (by kernel_rfl) (by kernel_rfl) ?_
      repeat (go_big_quiet_step ((go_at_call 12; exact kin_of (SN.out _))))
      refine wpQuiet_nil ?_
      rintro _ ⟨pk, rfl⟩
      have HP := pk.h
      have CC := hidE (clk_below CC.out HP)
      have EF := hidE (efar_below EF.out HP)
      have HB := nxt HB HP
      generalize pk.w = wp at *
      clear kc kf kn HR9 SN i0 ifz ilt k8 hel HP VW OW
      have hS : Below wp.heap.size wp { wp with drawn := wp.drawn + 1 } := (Below.refl _ _).drew
      have k8 := EF.out.c8
      have hel := EF.out.lt
      have hfl := EF.out.fl
      have hgl : g < wp.heap.size := Nat.lt_of_lt_of_le q3 HB.out.size
      have e2 : wp.cell? ⟨g, off + n * 2 + 1, none⟩ = some (.int .i64 v2) := (HB.out.cell (p := ⟨g, off + n * 2 + 1, none⟩) q3).trans E2W.out
      have kx : wp.cell? ⟨gf, pv, none⟩ = some (.int .i64 (G.getD pv 0)) := by
        have h := EF.out.fo.cellAt pv (by omega)
        rw [h]
        simp [List.getD, hlG, hpv]
      have kz := owns_thaw EF.out.fo pv
      obtain ⟨x, hx⟩ : ∃ x, G.getD pv 0 = x := ⟨_, rfl⟩
      rw [hx] at kx
      have hsee : seeL G pv v2 = G.set pv (max x v2) := by unfold seeL; rw [hx]
      have HSE := hidE hsee
      clear hx hsee
      have CC := hidE (clk_put (clk_below CC.out hS) hbf.symm N3.symm pv (.int .i64 (max x v2)))
      have EFn := hidE (efar_put (efar_below EF.out hS) pv (max x v2))
      rw [← HSE.out] at EFn
      have HBn := hidE ((nxt HB hS).out.setCell (p := ⟨gf, pv, none⟩) hgfw (.int .i64 (max x v2)))
      have HFZ := hidE (hS.frozen (p := ⟨gf, pv, none⟩) hfl)
      have HKX := hidE (hS.cell (p := ⟨gf, pv, none⟩) hfl)
      go_wp2_with fail
      refine wp_region_last (Below wp.heap.size wp) 19 (by kernel_rfl) ?_
      generalize hwd : ({ wp with drawn := wp.drawn + 1 } : World) = wd2 at *
      clear hwd
      refine last_take (i := 0) (v := .pointer (some ⟨ge, 0, none⟩)) (L := #[true, false, false, false, false, false, false, false, false, false, false, false, false, false, false, false, false, false, false, false]) [1, 2, 3, 18, 19] rfl (by kernel_rfl) (by kernel_rfl) (by kernel_rfl) (by kernel_rfl) (by kernel_rfl) (fun c a w h => h) (Or.inl ⟨by kernel_rfl, fun wq hq => by go_simp⟩) hS (by kernel_rfl) ?_
      refine last_take (i := 1) (v := .pointer (some ⟨ge, 0, none⟩)) (L := #[true, true, false, false, false, false, false, false, false, false, false, false, false, false, false, false, false, false, false, false]) [2, 3, 18, 19] rfl (by kernel_rfl) (by kernel_rfl) (by kernel_rfl) (by kernel_rfl) (by kernel_rfl) (fun c a w h => h) (Or.inl ⟨by kernel_rfl, fun wq hq => by go_simp⟩) hS (by kernel_rfl) ?_
      refine last_take (i := 2) (v := .pointer (some ⟨ge, 8, none⟩)) (L := #[true, true, true, false, false, false, false, false, false, false, false, false, false, false, false, false, false, false, false, false]) [3, 18, 19] rfl (by kernel_rfl) (by kernel_rfl) (by kernel_rfl) (by kernel_rfl) (by kernel_rfl) (fun c a w h => h) (Or.inl ⟨by kernel_rfl, fun wq hq => by go_simp⟩) hS (by kernel_rfl) ?_
      refine last_take (i := 3) (v := .slice (some ⟨gf, 0, none⟩) P capf) (L := #[true, true, true, true, false, false, false, false, false, false, false, false, false, false, false, false, false, false, false, false]) [18, 19] rfl (by kernel_rfl) (by kernel_rfl) (by kernel_rfl) (by kernel_rfl) (by kernel_rfl) (fun c a w h => h) (Or.inl ⟨by kernel_rfl, fun wq hq => by have q := hq.cell (p := ⟨ge, 8, none⟩) hel; rw [k8] at q; go_simp⟩) hS (by kernel_rfl) ?_
      refine last_take (i := 4) (v := .int .i64 (pv : Int)) (L := #[true, true, true, true, true, false, false, false, false, false, false, false, false, false, false, false, false, false, false, false]) [18, 19] rfl (by kernel_rfl) (by kernel_rfl) (by kernel_rfl) (by kernel_rfl) (by kernel_rfl) (fun c a w h => h) (Or.inl ⟨by kernel_rfl, fun wq hq => by go_simp⟩) hS (by kernel_rfl) ?_
      refine last_take (i := 5) (v := .pointer (some ⟨ge, 0, none⟩)) (L := #[true, true, true, true, true, true, false, false, false, false, false, false, false, false, false, false, false, false, false, false]) [6, 7, 8, 10, 11, 17, 19] rfl (by kernel_rfl) (by kernel_rfl) (by kernel_rfl) (by kernel_rfl) (by kernel_rfl) (fun c a w h => h) (Or.inl ⟨by kernel_rfl, fun wq hq => by go_simp⟩) hS (by kernel_rfl) ?_
      refine last_take (i := 6) (v := .pointer (some ⟨ge, 0, none⟩)) (L := #[true, true, true, true, true, true, true, false, false, false, false, false, false, false, false, false, false, false, false, false]) [7, 8, 10, 11, 17, 19] rfl (by kernel_rfl) (by kernel_rfl) (by kernel_rfl) (by kernel_rfl) (by kernel_rfl) (fun c a w h => h) (Or.inl ⟨by kernel_rfl, fun wq hq => by go_simp⟩) hS (by kernel_rfl) ?_
      refine last_take (i := 7) (v := .pointer (some ⟨ge, 8, none⟩)) (L := #[true, true, true, true, true, true, true, true, false, false, false, false, false, false, false, false, false, false, false, false]) [8, 10, 11, 17, 19] rfl (by kernel_rfl) (by kernel_rfl) (by kernel_rfl) (by kernel_rfl) (by kernel_rfl) (fun c a w h => h) (Or.inl ⟨by kernel_rfl, fun wq hq => by go_simp⟩) hS (by kernel_rfl) ?_
      refine last_take (i := 8) (v := .slice (some ⟨gf, 0, none⟩) P capf) (L := #[true, true, true, true, true, true, true, true, true, false, false, false, false, false, false, false, false, false, false, false]) [10, 11, 17, 19] rfl (by kernel_rfl) (by kernel_rfl) (by kernel_rfl) (by kernel_rfl) (by kernel_rfl) (fun c a w h => h) (Or.inl ⟨by kernel_rfl, fun wq hq => by have q := hq.cell (p := ⟨ge, 8, none⟩) hel; rw [k8] at q; go_simp⟩) hS (by kernel_rfl) ?_
      refine last_take (i := 9) (v := .int .i64 (pv : Int)) (L := #[true, true, true, true, true, true, true, true, true, true, false, false, false, false, false, false, false, false, false, false]) [10, 11, 17, 19] rfl (by kernel_rfl) (by kernel_rfl) (by kernel_rfl) (by kernel_rfl) (by kernel_rfl) (fun c a w h => h) (Or.inl ⟨by kernel_rfl, fun wq hq => by go_simp⟩) hS (by kernel_rfl) ?_
      refine last_take (i := 10) (v := .pointer (some ⟨gf, pv, none⟩)) (L := #[true, true, true, true, true, true, true, true, true, true, true, false, false, false, false, false, false, false, false, false]) [11, 17, 19] rfl (by kernel_rfl) (by kernel_rfl) (by kernel_rfl) (by kernel_rfl) (by kernel_rfl) (fun c a w h => h) (Or.inl ⟨by kernel_rfl, fun wq hq => by go_simp⟩) hS (by kernel_rfl) ?_
      refine last_take (i := 11) (v := .int .i64 x) (L := #[true, true, true, true, true, true, true, true, true, true, true, true, false, false, false, false, false, false, false, false]) [17, 19] rfl (by kernel_rfl) (by kernel_rfl) (by kernel_rfl) (by kernel_rfl) (by kernel_rfl) (fun c a w h => h) (Or.inl ⟨by kernel_rfl, fun wq hq => by have q := hq.cell (p := ⟨gf, pv, none⟩) hfl; rw [kx] at q; go_simp⟩) hS (by kernel_rfl) ?_
      refine last_take (i := 12) (v := .slice (some ⟨g, off, none⟩) l.length cap) (L := #[true, true, true, true, true, true, true, true, true, true, true, true, true, false, false, false, false, false, false, false]) [14, 15, 16, 17, 19] rfl (by kernel_rfl) (by kernel_rfl) (by kernel_rfl) (by kernel_rfl) (by kernel_rfl) (fun c a w h => h) (Or.inl ⟨by kernel_rfl, fun wq hq => by go_simp⟩) hS (by kernel_rfl) ?_
      refine last_take (i := 13) (v := .int .i64 (n : Int)) (L := #[true, true, true, true, true, true, true, true, true, true, true, true, true, true, false, false, false, false, false, false]) [14, 15, 16, 17, 19] rfl (by kernel_rfl) (by kernel_rfl) (by kernel_rfl) (by kernel_rfl) (by kernel_rfl) (fun c a w h => h) (Or.inl ⟨by kernel_rfl, fun wq hq => by go_simp⟩) hS (by kernel_rfl) ?_
      refine last_take (i := 14) (v := .pointer (some ⟨g, off + n * 2, none⟩)) (L := #[true, true, true, true, true, true, true, true, true, true, true, true, true, true, true, false, false, false, false, false]) [15, 16, 17, 19] rfl (by kernel_rfl) (by kernel_rfl) (by kernel_rfl) (by kernel_rfl) (by kernel_rfl) (fun c a w h => h) (Or.inl ⟨by kernel_rfl, fun wq hq => by go_simp⟩) hS (by kernel_rfl) ?_
      refine last_take (i := 15) (v := .pointer (some ⟨g, off + n * 2 + 1, none⟩)) (L := #[true, true, true, true, true, true, true, true, true, true, true, true, true, true, true, true, false, false, false, false]) [16, 17, 19] rfl (by kernel_rfl) (by kernel_rfl) (by kernel_rfl) (by kernel_rfl) (by kernel_rfl) (fun c a w h => h) (Or.inl ⟨by kernel_rfl, fun wq hq => by go_simp⟩) hS (by kernel_rfl) ?_
      refine last_take (i := 16) (v := .int .i64 v2) (L := #[true, true, true, true, true, true, true, true, true, true, true, true, true, true, true, true, true, false, false, false]) [17, 19] rfl (by kernel_rfl) (by kernel_rfl) (by kernel_rfl) (by kernel_rfl) (by kernel_rfl) (fun c a w h => h) (Or.inl ⟨by kernel_rfl, fun wq hq => by have q := hq.cell (p := ⟨g, off + n * 2 + 1, none⟩) hgl; rw [e2] at q; go_simp⟩) hS (by kernel_rfl) ?_
      refine last_go (i := 17) (L := #[true, true, true, true, true, true, true, true, true, true, true, true, true, true, true, true, true, true, false, false]) (by kernel_rfl) rfl (by kernel_rfl) (by kernel_rfl) ?_
      intro K' hK
      refine op_max (p := x) (q := v2) (.tmp 119) (.tmp 124) rfl (by go_simp) (by go_simp) ?_
      refine hK _ _ ⟨fun _ => hS, ?_⟩
      clear hK
      refine last_go (i := 18) (L := #[true, true, true, true, true, true, true, true, true, true, true, true, true, true, true, true, true, true, true, false]) (by kernel_rfl) rfl (by kernel_rfl) (by kernel_rfl) ?_
      intro K' hK
      go_simp
      refine hK _ _ ⟨fun _ => hS, ?_⟩
      clear hK
      refine last_go (i := 19) (L := #[true, true, true, true, true, true, true, true, true, true, true, true, true, true, true, true, true, true, true, true]) (by kernel_rfl) rfl (by kernel_rfl) (by kernel_rfl) ?_
      intro K' hK
      have ky := HKX.out.trans kx
      have kw := HFZ.out.trans kz
      go_simp
      refine hK _ _ ⟨fun h => absurd rfl h, ?_⟩
      clear hK
      refine last_done (by kernel_rfl) ?_ _
      clear k8 hel hfl hgl e2 kx kz hS EF HB HFZ HKX HSE
      generalize wd2.setCell ⟨gf, pv, none⟩ (.int .i64 (max x v2)) = w10 at *
      clear ky kw
      generalize seeL G pv v2 = G2 at *
      have HB := HBn
      have EF := EFn
      clear HBn EFn E2W dt1 dt2 t1 t2 PV2 hpv hlG
      obtain ⟨i0, ifz, ilt⟩ := CC.out.va
      have AL := hidE (all_any G2 _ delay w10 (by omega) (by omega) (clk_row CC.out))
      have UP := hidE (fun w' h => upto_any G2 ge _ delay w' (by omega) (by omega) (efar_row (efar_below EF.out h)) (efar_below EF.out h).lt (efar_below EF.out h).c8 (efar_below EF.out h).c5)
      rw [upto_part G2 delay (by omega)] at UP
      rw [partV_is] at AL UP
      generalize tupV (minOf G2) delay = TY at *
      obtain ⟨iw, ib⟩ := TY
      simp only at AL UP
      go_wp2_with fail
      refine AL.out.mono ?_
      rintro e w11 ⟨rfl, hb⟩
      have CC := hidE (clk_below CC.out hb)
      have UQ := UP.out w11 hb
      have EF := hidE (efar_below EF.out hb)
      have HB := nxt HB hb
      clear hb i0 ifz ilt AL
      go_wp2_with fail
      refine UQ.mono ?_
      rintro e w12 ⟨rfl, hb⟩
      have CC := hidE (clk_below CC.out hb)
      have EF := hidE (efar_below EF.out hb)
      have HB := nxt HB hb
      clear hb UQ UP
      have SN : Hid (∀ p : Kin w12, Calls Try.prog 12 #[.slice (some ⟨g9, 0, none⟩) P cap9, .slice (some ⟨gf, 0, none⟩) P capf] p.w fun e w' => e = .returned (.bool true) ∧ Below p.w.heap.size p.w w') := fun p => by
        have h9 := nums_any p.w _ _ G2 G2 (rowI_of (rowG_below (clk_row CC.out) p.h) (by omega)) (rowI_of (rowG_below (efar_row EF.out) p.h) (by omega)) rfl
        rw [show decide (G2 = G2) = true from by simp] at h9
        exact h9
      obtain ⟨i0, ifz, ilt⟩ := CC.out.va
      have k8 := EF.out.c8
      have hel := EF.out.lt
      have kn := kin_some w12
      obtain ⟨kc, kf⟩ := kin_rules w12
      have HR9 : Hid (Below w12.heap.size w12 w12) := Below.refl _ _
      have bb : (ib != ib) = false := by simp
      have bw2 : (iw != iw) = false := by simp
      go_wp2_with fail
      refine wp_region_kin HR9 (by kernel_rfl) (by kernel_rfl) ?_
      repeat (go_big_quiet_step ((go_at_call 12; exact kin_of (SN.out _))))
      refine wpQuiet_nil ?_
      rintro _ ⟨pk, rfl⟩
      have HP := pk.h
      have CC := hidE (clk_below CC.out HP)
      have EF := hidE (efar_below EF.out HP)
      have HB := nxt HB HP
      generalize pk.w = wq at *
      clear kc kf kn HR9 SN i0 ifz ilt k8 hel HP bb bw2
      go_wp2_with fail
      go_loopw [18] (fun p wr => ∃ m : Nat, m ≤ P ∧ p = .int .i64 m ∧ Hid (Below w.heap.size w wr) ∧ Hid (Clk w.heap.size wr bc ge P g9 cap9 G2) ∧ Hid (EFar w.heap.size wr ge gf P capf delay G2)) (fun p _ => P - (intOf p).toNat)
      case atStart => exact ⟨0, Nat.zero_le _, rfl, HB, CC, EF⟩
      case round =>
        clear HB CC EF
        obtain ⟨m, hm, rfl, HB, CC, EF⟩ := hrel
        by_cases hmp : m < P
        · have PA := hidE (part_any G2 _ m delay wr (by omega) (by omega) (clk_row CC.out))
          obtain ⟨i0, ifz, ilt⟩ := CC.out.va
          have hy0 : ∀ wz, Below wr.heap.size wr wz → wz.cell? ⟨gf, m, none⟩ = some (.int .i64 (G2.getD m 0)) := fun wz hz => by
            have h := (efar_below EF.out hz).fo.cellAt m (by omega)
            rw [h]
            simp [List.getD, hlG2, hmp]
          have HY := hidE hy0
          clear hy0
          generalize G2.getD m 0 = y at *
          unfold partV at PA
          by_cases hy : y ≤ -1
          · rw [if_pos hy] at PA
            have dy : decide (0 ≤ y) = false := by simp; omega
            go_wp2_with fail
            refine PA.out.mono ?_
            rintro e wz ⟨rfl, hb⟩
            have ky := HY.out wz hb
            have CC := hidE (clk_below CC.out hb)
            have EF := hidE (efar_below EF.out hb)
            have HB := nxt HB hb
            have k8 := EF.out.c8
            clear hb i0 ifz ilt PA HY
            go_wp2_with fail
            go_roundw
            case rel => exact ⟨m + 1, by omega, by go_num, HB, CC, EF⟩
            case measure => simp [intOf]; omega
          · rw [if_neg hy] at PA
            have dy : decide (0 ≤ y) = true := by simp; omega
            go_wp2_with fail
            refine PA.out.mono ?_
            rintro e wz ⟨rfl, hb⟩
            have ky := HY.out wz hb
            have CC := hidE (clk_below CC.out hb)
            have EF := hidE (efar_below EF.out hb)
            have HB := nxt HB hb
            have k8 := EF.out.c8
            clear hb i0 ifz ilt PA HY
            go_wp2_with fail
            go_roundw
            case rel => exact ⟨m + 1, by omega, by go_num, HB, CC, EF⟩
            case measure => simp [intOf]; omega
        · have hmP : m = P := by omega
          subst hmP
          go_wp2_with fail
          go_roundw
          case rel => exact ⟨n + 1, g9, cap9, G2, by omega, N3, by go_num, HB, CC, EF⟩
          case measure => simp [intOf]; omega
end Go.Proofs.Ytepfpmagppckeab

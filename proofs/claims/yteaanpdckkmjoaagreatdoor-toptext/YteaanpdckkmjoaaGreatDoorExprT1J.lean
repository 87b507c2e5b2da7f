/- Several texts in one, each with its own head. What is proved: what the parts say. Conditions: theirs. -/
import Derived.Test.YteaanpdckkmjoaaGreatDoorExpr3J
/- Contracts of goesWith, kindOf, partsFit of package expr, and of the document's Arity, over this seat's translation. Conditions: none. -/
namespace Go.Proofs.YteaanpdckkmjoaaGreatDoor
open Go.ChangeShapes Go.WideShapes Go.ChangeAt Go.RowKit
set_option linter.unusedVariables false
set_option linter.unusedSimpArgs false

theorem rarity_any (op : Int) (w : World) :
    Calls Tryz.prog 63 #[.int .i64 op] w fun e w' => e = .returned (.int .i64 (ar op)) ∧ w' = w := by
  by_cases h : 1 ≤ op ∧ op ≤ 12
  · rcases (by omega : op = 1 ∨ op = 2 ∨ op = 3 ∨ op = 4 ∨ op = 5 ∨ op = 6 ∨ op = 7 ∨ op = 8 ∨ op = 9 ∨ op = 10 ∨ op = 11 ∨ op = 12) with rfl | rfl | rfl | rfl | rfl | rfl | rfl | rfl | rfl | rfl | rfl | rfl
    all_goals
      clear h
      go_enter Tryz.func63, Tryz.ntmps63
      go_wp2
      go_ret
      exact ⟨rfl, rfl⟩
  · have e : ar op = -1 := by unfold ar; rw [if_neg (by omega), if_neg (by omega), if_neg (by omega)]
    rw [e]
    by_cases h1 : op ≤ 0
    · have g1 : (op == 1) = false := by simp; omega
      have g2 : (op == 2) = false := by simp; omega
      clear h e
      go_enter Tryz.func63, Tryz.ntmps63
      go_wp2
      go_ret
      exact ⟨rfl, rfl⟩
    · have g1 : (op == 1) = false := by simp; omega
      have g2 : (op == 2) = false := by simp; omega
      have g3 : 3 ≤ op := by omega
      have g4 : decide (op ≤ 5) = false := by simp; omega
      have g5 : 6 ≤ op := by omega
      have g6 : decide (op ≤ 12) = false := by simp; omega
      clear h e h1
      go_enter Tryz.func63, Tryz.ntmps63
      go_wp2
      go_ret
      exact ⟨rfl, rfl⟩

theorem goes_any (op k : Int) (w : World) :
    Calls Tryz.prog 107 #[.int .i64 op, .int .i64 k] w fun e w' => e = .returned (.bool (goes op k)) ∧ w' = w := by
  by_cases h4 : op = 4 ∨ op = 9 ∨ op = 10
  · have e : goes op k = !(k == 1) := by unfold goes; rw [if_pos h4]
    rw [e]
    rcases h4 with rfl | rfl | rfl
    all_goals
      clear e
      go_enter Tryz.func107, Tryz.ntmps107
      go_wp2
      go_ret
      exact ⟨rfl, rfl⟩
  · by_cases h5 : op = 5
    · have e : goes op k = true := by unfold goes; rw [if_neg h4, if_pos h5]
      rw [e]
      subst h5
      clear e h4
      go_enter Tryz.func107, Tryz.ntmps107
      go_wp2
      go_ret
      exact ⟨rfl, rfl⟩
    · have e : goes op k = !(k == 2) := by unfold goes; rw [if_neg h4, if_neg h5]
      rw [e]
      have g4 : (op == 4) = false := by simp; omega
      have g9 : (op == 9) = false := by simp; omega
      have g10 : (op == 10) = false := by simp; omega
      have g5 : (op == 5) = false := by simp; omega
      clear e h4 h5
      go_enter Tryz.func107, Tryz.ntmps107
      go_wp2
      go_ret
      exact ⟨rfl, rfl⟩

theorem kindOf_any (n : Nd) (w : World) :
    Calls Tryz.prog 88 #[aggN n] w fun e w' => e = .returned (.int .i64 (kindN n)) ∧ Below w.heap.size w w' := by
  obtain ⟨op, x, y, nn, k, v⟩ := n
  unfold aggN
  simp only
  have H0 : Hid (Below w.heap.size w (w.alloc (.cells #[.int .i64 op, .int .i64 x, .int .i64 y, .int .i64 nn, .int .i64 k, .int .i64 v] 91))) := (Below.refl _ _).alloc (Nat.le_refl _) _
  by_cases h1 : op = 1
  · have e : kindN ⟨op, x, y, nn, k, v⟩ = k := by unfold kindN; rw [if_pos h1]
    rw [e]
    have g1 : (op == 1) = true := by simp [h1]
    clear h1 e
    go_enter Tryz.func88, Tryz.ntmps88
    go_wp2
    go_ret
    exact ⟨rfl, H0.out⟩
  · have g1 : (op == 1) = false := by simp [h1]
    by_cases h2 : op = 4 ∨ op = 5 ∨ op = 9 ∨ op = 10 ∨ op = 11 ∨ op = 12
    · have e : kindN ⟨op, x, y, nn, k, v⟩ = 2 := by unfold kindN; rw [if_neg h1, if_pos h2]
      rw [e]
      clear h1 g1 e
      rcases h2 with rfl | rfl | rfl | rfl | rfl | rfl
      all_goals
        go_enter Tryz.func88, Tryz.ntmps88
        go_wp2
        go_ret
        exact ⟨rfl, H0.out⟩
    · have e : kindN ⟨op, x, y, nn, k, v⟩ = 1 := by unfold kindN; rw [if_neg h1, if_neg h2]
      rw [e]
      have g4 : (op == 4) = false := by simp; omega
      have g5 : (op == 5) = false := by simp; omega
      have g9 : (op == 9) = false := by simp; omega
      have g10 : (op == 10) = false := by simp; omega
      have g11 : (op == 11) = false := by simp; omega
      have g12 : (op == 12) = false := by simp; omega
      clear h1 h2 e
      go_enter Tryz.func88, Tryz.ntmps88
      go_wp2
      go_ret
      exact ⟨rfl, H0.out⟩

def fitS (op : Int) (ks : List Int) : List Int → Bool
  | [] => true
  | p :: ps => if fitP op ks p then fitS op ks ps else false
theorem fitS_is (n : Nd) (ks : List Int) : fitS n.op ks (partsN n) = fitN n ks := by
  unfold partsN fitN
  by_cases h1 : ar n.op = 1
  · rw [if_pos h1, if_pos h1]
    simp only [fitS]
    cases fitP n.op ks n.x <;> rfl
  · rw [if_neg h1, if_neg h1]
    by_cases h2 : ar n.op = 2
    · rw [if_pos h2, if_pos h2]
      simp only [fitS]
      cases fitP n.op ks n.y <;> cases fitP n.op ks n.x <;> rfl
    · rw [if_neg h2, if_neg h2]
      rfl

theorem partsFit_any (n : Nd) (ks : List Int) (v : Value) (w : World) (hl : ks.length ≤ 1000) (hr : RowG w v 1 ks.length (ks.map (Value.int .i64))) :
    Calls Tryz.prog 87 #[aggN n, v] w fun e w' => e = .returned (.bool (fitN n ks)) ∧ Below w.heap.size w w' := by
  obtain ⟨ao, cap, rfl⟩ := rowG_shape hr
  have HR := hidE hr
  clear hr
  rw [← fitS_is]
  have H0 : Hid (Below w.heap.size w (w.alloc (.cells #[.int .i64 n.op, .int .i64 n.x, .int .i64 n.y, .int .i64 n.n, .int .i64 n.k, .int .i64 n.v] 91))) := (Below.refl _ _).alloc (Nat.le_refl _) _
  have HL := hidE (lastFirst_any n (w.alloc (.cells #[.int .i64 n.op, .int .i64 n.x, .int .i64 n.y, .int .i64 n.n, .int .i64 n.k, .int .i64 n.v] 91)))
  have h2 : (partsN n).length ≤ 2 := by unfold partsN; repeat' split
                                        all_goals simp
  unfold aggN at HL ⊢
  generalize hT : fitS n.op ks (partsN n) = T
  have HT := hidE hT
  clear hT
  generalize partsN n = ps at *
  go_enter Tryz.func87, Tryz.ntmps87
  go_wp2_with fail
  refine HL.out.mono ?_
  rintro e w1 ⟨u, rfl, hr, hb⟩
  obtain ⟨ao1, cap1, rfl⟩ := rowG_shape hr
  have HB0 := hidE hb
  have HB := hidE (H0.out.trans (hb.mono H0.out.size))
  have HR := hidE (rowG_below HR.out HB.out)
  have HP := hidE hr
  have hop : w1.cell? ⟨w.heap.size, 0, none⟩ = some (.int .i64 n.op) := by rw [hb.cell (p := ⟨w.heap.size, 0, none⟩) (by simp)]; go_simp
  clear hr hb HL H0
  go_wp2_with fail
  have kn := kin_some w1
  obtain ⟨kc, kf⟩ := kin_rules w1
  have hsw : w.heap.size < w1.heap.size := by
    have := HB0.out.size
    simp only [World.size_alloc] at this
    omega
  go_loopw [10] (fun i wr => ∃ m : Nat, m ≤ ps.length ∧ i = .int .i64 m ∧ Hid (Below w1.heap.size w1 wr) ∧ Hid (fitS n.op ks (ps.drop m) = T)) (fun i _ => ps.length - (intOf i).toNat)
  case atStart => exact ⟨0, Nat.zero_le _, rfl, Below.refl _ _, HT⟩
  case round =>
    clear HT
    obtain ⟨m, hm, rfl, HBr, HS⟩ := hrel
    obtain ⟨hc, hf'⟩ := rules HBr
    by_cases hlt : m < ps.length
    · obtain ⟨g, off, x, rfl, hx, cx, l1, l2, l3⟩ := rowG_cell HP.out m hlt
      rw [List.getElem?_map, List.getElem?_eq_getElem hlt] at hx
      simp only [Option.map_some, Option.some.injEq] at hx
      subst hx
      have hS := HS.out
      rw [List.drop_eq_getElem_cons hlt] at hS
      generalize ps[m] = p at *
      simp only [fitS] at hS
      unfold maxLen at l2
      by_cases h0 : p < 0
      · have e : T = false := by rw [← hS]; unfold fitP; rw [if_pos (Or.inl h0)]; rfl
        subst e
        clear hS HS
        go_wp2_with fail
        refine wp_region_kin HBr (by kernel_rfl) (by kernel_rfl) ?_
        repeat (go_big_quiet_step (fail))
        refine wpQuiet_nil ?_
        rintro _ ⟨pk, rfl⟩
        have HBr : Hid _ := pk.h
        go_wp2_with fail
        go_ret
        exact ⟨rfl, done HB.out HBr⟩
      · by_cases h1 : (ks.length : Int) ≤ p
        · have e : T = false := by rw [← hS]; unfold fitP; rw [if_pos (Or.inr h1)]; rfl
          subst e
          have z0 : decide (p < 0) = false := by simpa using h0
          clear hS HS h0
          go_wp2_with fail
          refine wp_region_kin HBr (by kernel_rfl) (by kernel_rfl) ?_
          repeat (go_big_quiet_step (fail))
          refine wpQuiet_nil ?_
          rintro _ ⟨pk, rfl⟩
          have HBr : Hid _ := pk.h
          go_wp2_with fail
          go_ret
          exact ⟨rfl, done HB.out HBr⟩
        · obtain ⟨d, rfl⟩ : ∃ d : Nat, p = (d : Int) := ⟨p.toNat, by omega⟩
          have hd : d < ks.length := by omega
          obtain ⟨g2, off2, x2, rfl, hx2, cx2, l12, l22, l32⟩ := rowG_cell HR.out d hd
          rw [List.getElem?_map, List.getElem?_eq_getElem hd] at hx2
          simp only [Option.map_some, Option.some.injEq] at hx2
          subst hx2
          have hf : fitP n.op ks (d : Int) = goes n.op ks[d] := by
            unfold fitP
            rw [if_neg (by omega), List.getD_eq_getElem?_getD, Int.toNat_natCast, List.getElem?_eq_getElem hd]; rfl
          rw [hf] at hS
          generalize ks[d] = q at *
          unfold maxLen at l22
          have HG := hidE (fun w => goes_any n.op q w)
          have z0 : decide ((d : Int) < 0) = false := by simp
          have z1 : decide (ks.length ≤ d) = false := by simp; omega
          have z2 : decide ((ks.length : Int) ≤ (d : Int)) = false := by simp; omega
          clear hf h0 h1
          cases hg : goes n.op q
          · rw [hg] at hS HG
            simp only [Bool.false_eq_true, if_false] at hS
            subst hS
            clear hg HS
            go_wp2_with fail
            refine wp_region_kin HBr (by kernel_rfl) (by kernel_rfl) ?_
            repeat (go_big_quiet_step ((go_at_call 107; exact kin_same (HG.out _))))
            refine wpQuiet_nil ?_
            rintro _ ⟨pk, rfl⟩
            have HBr : Hid _ := pk.h
            go_wp2_with fail
            go_ret
            exact ⟨rfl, done HB.out HBr⟩
          · rw [hg] at hS HG
            simp only [if_true] at hS
            have HS := hidE hS
            clear hg hS
            go_wp2_with fail
            refine wp_region_kin HBr (by kernel_rfl) (by kernel_rfl) ?_
            repeat (go_big_quiet_step ((go_at_call 107; exact kin_same (HG.out _))))
            refine wpQuiet_nil ?_
            rintro _ ⟨pk, rfl⟩
            have HBr : Hid _ := pk.h
            go_wp2_with fail
            go_roundw
            case rel => exact ⟨m + 1, by omega, by go_num, HBr, HS⟩
            case measure => simp [intOf]; omega
    · have e : T = true := by
        have := HS.out
        rw [List.drop_eq_nil_of_le (by omega)] at this
        exact this.symm
      subst e
      go_wp2_with fail
      go_ret
      exact ⟨rfl, done HB.out HBr⟩
end Go.Proofs.YteaanpdckkmjoaaGreatDoor
/- The contract of Type of package expr, over this seat's translation. Conditions: the slice holds the nodes. -/
namespace Go.Proofs.YteaanpdckkmjoaaGreatDoor
open Go.ChangeShapes Go.WideShapes Go.ChangeAt Go.RowKit
set_option linter.unusedVariables false
set_option linter.unusedSimpArgs false

def tyO (n : Nat) : Option (List Int) → V2
  | none => (0, 3)
  | some ks => (ks.getD (n - 1) 0, 0)

set_option maxRecDepth 100000 in
set_option maxHeartbeats 1000000 in
theorem type_any (l : List Nd) (v : Value) (w : World) (hl : l.length ≤ 1000) (hr : RowG w v 6 l.length (rowN l)) :
    Calls Tryz.prog 67 #[v] w fun e w' => e = .returned (.tuple #[.int .i64 (tyE l).1, errC (tyE l).2]) ∧ Below w.heap.size w w' := by
  obtain ⟨ao, cap, rfl⟩ := rowG_shape hr
  obtain ⟨i0, hi, hz0, hz1, hz2⟩ := info_parts infoI
  have HR := hidE hr
  clear hr
  by_cases h0 : l.length = 0
  · have e : tyE l = (0, 3) := by unfold tyE; rw [if_pos h0]
    rw [e]
    have z : ((l.length : Int) == 0) = true := by simp [h0]
    clear e h0
    go_enter Tryz.func67, Tryz.ntmps67
    go_wp2_with fail
    go_ret2
    exact ⟨rfl, Below.refl _ _⟩
  · have z : ((l.length : Int) == 0) = false := by rw [beq_eq_false_iff_ne]; omega
    have hT : tyE l = tyO l.length (tyF l []) := by
      unfold tyE
      rw [if_neg h0]
      cases tyF l [] <;> rfl
    rw [hT]
    clear hT
    generalize hF : tyF l [] = T
    have HF := hidE hF
    clear hF
    go_enter Tryz.func67, Tryz.ntmps67
    go_wp2_with (at_make; go_must (refine wpList_make_own _ rfl _ _ 71 rfl w.heap.size 3 i0 (.int .i64 0) 1 Tryz.underlying71 hi hz0 hz1 .i64 .i64 _ l.length rfl rfl rfl (by rw [hz2]; omega) (by show _ ≤ 2 ^ 63 - 1; omega) (Nat.le_refl _) ?_))
    intro w0 ho0 hg0
    have HB0 : Hid (Below w.heap.size w w0) := (Below.refl _ _).grown hg0 (Nat.le_refl _) (fun k hk => by cases hk)
    have HO0 := hidE ho0
    clear ho0 hg0
    go_wp2_with fail
    go_loopw [4, 16] (fun v i wr => ∃ (m : Nat) (ks : List Int), m ≤ l.length ∧ ks.length = m ∧ i = .int .i64 m ∧ Hid (wr.ownsRow w.heap.size 3 1 v ks.length (ks.map (Value.int .i64))) ∧ Hid (Below w.heap.size w wr) ∧ Hid (tyF (l.drop m) ks = T)) (fun _ i _ => l.length - (intOf i).toNat)
    case atStart => exact ⟨0, [], Nat.zero_le _, rfl, rfl, HO0, HB0, HF⟩
    case round =>
      clear HF HB0 HO0
      obtain ⟨m, ks, hm, rfl, rfl, HO, HB, HS⟩ := hrel
      obtain ⟨ao2, cap2, rfl⟩ := owns_shapeE HO.out
      by_cases hlt : ks.length < l.length
      · obtain ⟨g, off, rfl, hnode, l1, l2, l3⟩ := rowN_node HR.out _ hlt
        have hS := HS.out
        rw [List.drop_eq_getElem_cons hlt] at hS
        generalize l[ks.length] = nd at *
        obtain ⟨n0, n1, n2, n3, n4, n5⟩ := nodeAt_below hnode HB.out l3
        clear hnode
        unfold maxLen at l2
        simp only [tyF] at hS
        go_wp2_with fail
        refine (partsFit_any nd ks _ _ (by omega) (rowG_of_owns (HO.out.alloc _))).mono ?_
        rintro e w1 ⟨rfl, hb1⟩
        have HB1 := nxt (nxta HB (.cells #[.int .i64 nd.op, .int .i64 nd.x, .int .i64 nd.y, .int .i64 nd.n, .int .i64 nd.k, .int .i64 nd.v] 91)) hb1
        have HO1 := hidE (own_keep (HO.out.alloc _) hb1 (Nat.le_refl _))
        obtain ⟨hc1, hf1⟩ := bcell hb1
        clear hb1
        cases hfit : fitN nd ks
        · rw [hfit] at hS
          simp only [Bool.false_eq_true, if_false] at hS
          subst hS
          clear hfit HS
          go_wp2_with fail
          go_ret2
          exact ⟨rfl, HB1.out⟩
        · rw [hfit] at hS
          simp only [if_true] at hS
          have HS2 : Hid (tyF (List.drop (ks.length + 1) l) (ks ++ [kindN nd]) = T) := hS
          clear hS hfit HS
          go_wp2_with fail
          refine (kindOf_any nd _).mono ?_
          rintro e w2 ⟨rfl, hb2⟩
          have HB2 := nxt HB1 hb2
          have HO2 := hidE (own_keep HO1.out hb2 (Nat.le_refl _))
          clear hb2 hc1 hf1
          generalize kindN nd = q at *
          go_wp2_with (at_builtin; go_must (refine wpList_append_own _ rfl (.tmp 25) (.tmp 28) 71 rfl w.heap.size 3 i0 (.int .i64 0) 1 8 Tryz.underlying71 hi hz0 hz1 hz2 rfl (by decide) _ _ _ rfl (HO2.out.alloc _) ⟨w2.heap.size, 0, none⟩ 1 1 [.int .i64 q] rfl rfl (cell_one_newE _ _ _) (by intro u hu; simp at hu; subst hu; rfl) (by show _ ≤ 2 ^ 63 - 1; omega) (by omega) (by have := HB2.out.size; simp; omega) ?_))
          intro v' w3 ho3 hg3 _
          have ho4 : w3.ownsRow w.heap.size 3 1 v' (ks ++ [q]).length ((ks ++ [q]).map (Value.int .i64)) := by simpa using ho3
          have HO3 := hidE ho4
          have HB3 : Hid (Below w.heap.size w w3) := (HB2.out.alloc HB2.out.size _).grown hg3 (by have := HB2.out.size; simp; omega) (fun k hk => (HO2.out.lt k hk).1)
          clear ho3 hg3 ho4
          go_wp2_with fail
          go_roundw
          case rel => exact ⟨ks.length + 1, ks ++ [q], by omega, by simp, by go_num, HO3, HB3, HS2⟩
          case measure => simp [intOf]; omega
      · have hS := HS.out
        rw [List.drop_eq_nil_of_le (by omega)] at hS
        simp only [tyF] at hS
        subst hS
        obtain ⟨d, hd⟩ : ∃ d, l.length = d + 1 := ⟨l.length - 1, by omega⟩
        have hdb : d < ks.length := by omega
        obtain ⟨g2, off2, x2, rfl, hx2, cx2, l12, l22, l32⟩ := rowG_cell (rowG_of_owns HO.out) d hdb
        rw [List.getElem?_map, List.getElem?_eq_getElem hdb] at hx2
        simp only [Option.map_some, Option.some.injEq] at hx2
        subst hx2
        have HX : Hid (tyO l.length (some ks) = (ks[d], 0)) := by
          show _ = _
          show ((ks.getD (l.length - 1) 0 : Int), (0 : Int)) = _
          rw [hd, Nat.add_sub_cancel, List.getD_eq_getElem?_getD, List.getElem?_eq_getElem hdb]; rfl
        have hd2 : ks.length = d + 1 := by omega
        generalize ks[d] = q at *
        unfold maxLen at l22
        clear HS h0
        go_wp2_with fail
        go_ret2
        exact ⟨by rw [HX.out]; rfl, HB.out⟩
end Go.Proofs.YteaanpdckkmjoaaGreatDoor

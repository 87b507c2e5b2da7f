/- The contract of Type of package expr, over this seat's translation. Conditions: the slice holds the nodes. -/
import Derived.Test.YtepfpmagppckeaaExprT1
namespace Go.Proofs.Ytepfpmagppckeaa
open Go.ChangeShapes Go.WideShapes Go.ChangeAt Go.RowKit
set_option linter.unusedVariables false
set_option linter.unusedSimpArgs false

def tyO (n : Nat) : Option (List Int) → V2
  | none => (0, 3)
  | some ks => (ks.getD (n - 1) 0, 0)

set_option maxRecDepth 100000 in
set_option maxHeartbeats 1000000 in
theorem type_any (l : List Nd) (v : Value) (w : World) (hl : l.length ≤ 1000) (hr : RowG w v 6 l.length (rowN l)) :
    Calls Try.prog 22 #[v] w fun e w' => e = .returned (.tuple #[.int .i64 (tyE l).1, errC (tyE l).2]) ∧ Below w.heap.size w w' := by
  obtain ⟨ao, cap, rfl⟩ := rowG_shape hr
  obtain ⟨i0, hi, hz0, hz1, hz2⟩ := info_parts infoI
  have HR := hidE hr
  clear hr
  by_cases h0 : l.length = 0
  · have e : tyE l = (0, 3) := by unfold tyE; rw [if_pos h0]
    rw [e]
    have z : ((l.length : Int) == 0) = true := by simp [h0]
    clear e h0
    go_enter Try.func22, Try.ntmps22
    go_wp2_with fail
    go_ret2
    exact ⟨rfl, Below.refl _ _⟩
  · have z : ((l.length : Int) == 0) = false := by rw [beq_eq_false_iff_ne]; omega
    have hT : tyE l = tyO l.length (tyF l []) := by
      unfold tyE
      rw [if_neg h0]
      cases tyF l [] <;> rfl
    rw [hT]
    clear hT
    generalize hF : tyF l [] = T
    have HF := hidE hF
    clear hF
    go_enter Try.func22, Try.ntmps22
    go_wp2_with (at_make; go_must (refine wpList_make_own _ rfl _ _ 72 rfl w.heap.size 3 i0 (.int .i64 0) 1 Try.underlying72 hi hz0 hz1 .i64 .i64 _ l.length rfl rfl rfl (by rw [hz2]; omega) (by show _ ≤ 2 ^ 63 - 1; omega) (Nat.le_refl _) ?_))
    intro w0 ho0 hg0
    have HB0 : Hid (Below w.heap.size w w0) := (Below.refl _ _).grown hg0 (Nat.le_refl _) (fun k hk => by cases hk)
    have HO0 := hidE ho0
    clear ho0 hg0
    go_wp2_with fail
    go_loopw [4, 16] (fun v i wr => ∃ (m : Nat) (ks : List Int), m ≤ l.length ∧ ks.length = m ∧ i = .int .i64 m ∧ Hid (wr.ownsRow w.heap.size 3 1 v ks.length (ks.map (Value.int .i64))) ∧ Hid (Below w.heap.size w wr) ∧ Hid (tyF (l.drop m) ks = T)) (fun _ i _ => l.length - (intOf i).toNat)
    case atStart => exact ⟨0, [], Nat.zero_le _, rfl, rfl, HO0, HB0, HF⟩
    case round =>
      clear HF HB0 HO0
      obtain ⟨m, ks, hm, rfl, rfl, HO, HB, HS⟩ := hrel
      obtain ⟨ao2, cap2, rfl⟩ := owns_shapeE HO.out
      by_cases hlt : ks.length < l.length
      · obtain ⟨g, off, rfl, hnode, l1, l2, l3⟩ := rowN_node HR.out _ hlt
        have hS := HS.out
        rw [List.drop_eq_getElem_cons hlt] at hS
        generalize l[ks.length] = nd at *
        obtain ⟨n0, n1, n2, n3, n4, n5⟩ := nodeAt_below hnode HB.out l3
        clear hnode
        unfold maxLen at l2
        simp only [tyF] at hS
        go_wp2_with fail
        refine (partsFit_any nd ks _ _ (by omega) (rowG_of_owns (HO.out.alloc _))).mono ?_
        rintro e w1 ⟨rfl, hb1⟩
        have HB1 := nxt (nxta HB (.cells #[.int .i64 nd.op, .int .i64 nd.x, .int .i64 nd.y, .int .i64 nd.n, .int .i64 nd.k, .int .i64 nd.v] 50)) hb1
        have HO1 := hidE (own_keep (HO.out.alloc _) hb1 (Nat.le_refl _))
        obtain ⟨hc1, hf1⟩ := bcell hb1
        clear hb1
        cases hfit : fitN nd ks
        · rw [hfit] at hS
          simp only [Bool.false_eq_true, if_false] at hS
          subst hS
          clear hfit HS
          go_wp2_with fail
          go_ret2
          exact ⟨rfl, HB1.out⟩
        · rw [hfit] at hS
          simp only [if_true] at hS
          have HS2 : Hid (tyF (List.drop (ks.length + 1) l) (ks ++ [kindN nd]) = T) := hS
          clear hS hfit HS
          go_wp2_with fail
          refine (kindOf_any nd _).mono ?_
          rintro e w2 ⟨rfl, hb2⟩
          have HB2 := nxt HB1 hb2
          have HO2 := hidE (own_keep HO1.out hb2 (Nat.le_refl _))
          clear hb2 hc1 hf1
          generalize kindN nd = q at *
          go_wp2_with (at_builtin; go_must (refine wpList_append_own _ rfl (.tmp 25) (.tmp 28) 72 rfl w.heap.size 3 i0 (.int .i64 0) 1 8 Try.underlying72 hi hz0 hz1 hz2 rfl (by decide) _ _ _ rfl (HO2.out.alloc _) ⟨w2.heap.size, 0, none⟩ 1 1 [.int .i64 q] rfl rfl (cell_one_newE _ _ _) (by intro u hu; simp at hu; subst hu; rfl) (by show _ ≤ 2 ^ 63 - 1; omega) (by omega) (by have := HB2.out.size; simp; omega) ?_))
          intro v' w3 ho3 hg3 _
          have ho4 : w3.ownsRow w.heap.size 3 1 v' (ks ++ [q]).length ((ks ++ [q]).map (Value.int .i64)) := by simpa using ho3
          have HO3 := hidE ho4
          have HB3 : Hid (Below w.heap.size w w3) := (HB2.out.alloc HB2.out.size _).grown hg3 (by have := HB2.out.size; simp; omega) (fun k hk => (HO2.out.lt k hk).1)
          clear ho3 hg3 ho4
          go_wp2_with fail
          go_roundw
          case rel => exact ⟨ks.length + 1, ks ++ [q], by omega, by simp, by go_num, HO3, HB3, HS2⟩
          case measure => simp [intOf]; omega
      · have hS := HS.out
        rw [List.drop_eq_nil_of_le (by omega)] at hS
        simp only [tyF] at hS
        subst hS
        obtain ⟨d, hd⟩ : ∃ d, l.length = d + 1 := ⟨l.length - 1, by omega⟩
        have hdb : d < ks.length := by omega
        obtain ⟨g2, off2, x2, rfl, hx2, cx2, l12, l22, l32⟩ := rowG_cell (rowG_of_owns HO.out) d hdb
        rw [List.getElem?_map, List.getElem?_eq_getElem hdb] at hx2
        simp only [Option.map_some, Option.some.injEq] at hx2
        subst hx2
        have HX : Hid (tyO l.length (some ks) = (ks[d], 0)) := by
          show _ = _
          show ((ks.getD (l.length - 1) 0 : Int), (0 : Int)) = _
          rw [hd, Nat.add_sub_cancel, List.getD_eq_getElem?_getD, List.getElem?_eq_getElem hdb]; rfl
        have hd2 : ks.length = d + 1 := by omega
        generalize ks[d] = q at *
        unfold maxLen at l22
        clear HS h0
        go_wp2_with fail
        go_ret2
        exact ⟨by rw [HX.out]; rfl, HB.out⟩
end Go.Proofs.Ytepfpmagppckeaa

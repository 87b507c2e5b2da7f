/- The law ValueSays, walked, where two values that may be compare so: case 3 of 5. Conditions: the library's tables and errors lie as the program's text lays them. -/
import Derived.Test.YticgfdcgobdlmaaDoorSaysC
import Derived.Deep.DeepCutAuto
import Derived.Deep.CutBlock
import Derived.OwnWalk
namespace Go.Proofs.YticgfdcgobdlmaaDoor
open Go.RowKit
set_option linter.unusedVariables false
set_option linter.unusedSimpArgs false
attribute [local go_sem ↓] eql_value neq_value

set_option maxRecDepth 100000 in
set_option maxHeartbeats 40000000 in
theorem says_3 (k1 n1 k2 n2 n op : Int) (s : ByteArray) (w : World) (hd : DecOk) (ht : Tabs w) (hs : s.size ≤ 50) (e : k1 = k2) (h : n1 < n2) :
    Calls Tryd.prog 4 #[.agg #[.int .i64 k1, .int .i64 n1], .agg #[.int .i64 k2, .int .i64 n2], .int .i64 n, .int .i64 op, .string s] w fun e w' => e = .returned (.bool true) ∧ Below w.heap.size w w' := by
  subst e
  have hsi : ((s.size : Nat) : Int) ≤ 50 := by omega
  have HT := hidT ht
  have HD := hidT hd
  clear ht hd
  have HB : Hid (Below ((w.alloc (.cells #[.int .i64 k1, .int .i64 n1] 32)).alloc (.cells #[.int .i64 k1, .int .i64 n2] 32)).heap.size ((w.alloc (.cells #[.int .i64 k1, .int .i64 n1] 32)).alloc (.cells #[.int .i64 k1, .int .i64 n2] 32)) ((w.alloc (.cells #[.int .i64 k1, .int .i64 n1] 32)).alloc (.cells #[.int .i64 k1, .int .i64 n2] 32))) := Below.refl _ _
  have kn := kin_some ((w.alloc (.cells #[.int .i64 k1, .int .i64 n1] 32)).alloc (.cells #[.int .i64 k1, .int .i64 n2] 32))
  obtain ⟨kc, kf⟩ := kin_rules ((w.alloc (.cells #[.int .i64 k1, .int .i64 n1] 32)).alloc (.cells #[.int .i64 k1, .int .i64 n2] 32))
  go_enter Tryd.func4, Tryd.ntmps4
  go_wp2_with (go_at_call 9; refine (values_g _).mono ?_; rintro e w1 ⟨rfl, hb⟩; have HB := nxt HB hb; obtain ⟨hc, hf⟩ := rules HB; clear hb)
  refine wp_region_kin HB (by kernel_rfl) (by kernel_rfl) ?_
  repeat (go_big_quiet_step (first | (go_at_call 10; exact kin_of (null_b _)) | (go_at_call 11; exact kin_of (number_any _ _)) | (go_at_call 12; exact kin_of (rnum_any _ _)) | (go_at_call 13; exact kin_of (truth_bb _ _)) | (go_at_call 14; exact kin_of (rtruth_any _ _)) | (go_at_call 15; exact kin_of (check_g _ _ _)) | (go_at_call 16; exact kin_of (fault_g _ _ _)) | (go_at_call 6; exact kin_same (same_g _ _ _))))
  refine wpQuiet_nil ?_
  rintro _ ⟨p, rfl⟩
  clear hc hf
  have HB : Hid (Below _ _ p.w) := p.h
  obtain ⟨hc, hf⟩ := rules HB
  have HTp := hidT (HT.out.below ((w2_below _ _ _).trans (p.h.mono (by simp; omega))))
  go_wp2_with (first | (go_at_call 17; refine (parse_g _ _ HTp.out hs).mono ?_; rintro e w3 ⟨rfl, hb⟩; have HB := nxt HB hb; obtain ⟨hc, hf⟩ := rules HB; clear hb))
  refine (of_any s _ hs).mono ?_
  rintro e w4 ⟨rfl, hb⟩
  have HX := hidT hb
  have HB := nxt2 HB hb
  clear hb hc hf
  have z0 := HB.out.size
  have z1 := HX.out.size
  simp only [World.size_alloc] at z0 z1
  obtain ⟨hc1, hf1⟩ := rules HX
  obtain ⟨hc, hf⟩ := rules HB
  go_upto_region 8 with (go_at_call 6; refine (same_p _ _).mono ?_; rintro e w5 ⟨rfl, rfl⟩)
  have f0 := rules (nxta HB (.cells #[.int .i64 (ofV s.data.toList).1, .int .i64 (ofV s.data.toList).2.1] 32))
  have f1 := rules (nxta HX (.cells #[.int .i64 (ofV s.data.toList).1, .int .i64 (ofV s.data.toList).2.1] 32))
  have a0 : (w4.alloc (.cells #[.int .i64 (ofV s.data.toList).1, .int .i64 (ofV s.data.toList).2.1] 32)).cell? ⟨w.heap.size, 0, none⟩ = some (.int .i64 k1) := by rw [f0.1 _ _ (by simp only [World.size_alloc]; omega)]; go_simp
  have a1 : (w4.alloc (.cells #[.int .i64 (ofV s.data.toList).1, .int .i64 (ofV s.data.toList).2.1] 32)).cell? ⟨w.heap.size, 1, none⟩ = some (.int .i64 n1) := by rw [f0.1 _ _ (by simp only [World.size_alloc]; omega)]; go_simp
  have b0 : (w4.alloc (.cells #[.int .i64 (ofV s.data.toList).1, .int .i64 (ofV s.data.toList).2.1] 32)).cell? ⟨w.heap.size + 1, 0, none⟩ = some (.int .i64 k1) := by rw [f0.1 _ _ (by simp only [World.size_alloc]; omega)]; go_simp
  have b1 : (w4.alloc (.cells #[.int .i64 (ofV s.data.toList).1, .int .i64 (ofV s.data.toList).2.1] 32)).cell? ⟨w.heap.size + 1, 1, none⟩ = some (.int .i64 n2) := by rw [f0.1 _ _ (by simp only [World.size_alloc]; omega)]; go_simp
  have x0 : (w4.alloc (.cells #[.int .i64 (ofV s.data.toList).1, .int .i64 (ofV s.data.toList).2.1] 32)).cell? ⟨w3.heap.size, 0, none⟩ = some (.int .i64 (ofV s.data.toList).1) := by rw [f1.1 _ _ (by simp only [World.size_alloc]; omega)]; go_simp
  have x1 : (w4.alloc (.cells #[.int .i64 (ofV s.data.toList).1, .int .i64 (ofV s.data.toList).2.1] 32)).cell? ⟨w3.heap.size, 1, none⟩ = some (.int .i64 (ofV s.data.toList).2.1) := by rw [f1.1 _ _ (by simp only [World.size_alloc]; omega)]; go_simp
  have y0 : (w4.alloc (.cells #[.int .i64 (ofV s.data.toList).1, .int .i64 (ofV s.data.toList).2.1] 32)).cell? ⟨w4.heap.size, 0, none⟩ = some (.int .i64 (ofV s.data.toList).1) := by go_simp
  have y1 : (w4.alloc (.cells #[.int .i64 (ofV s.data.toList).1, .int .i64 (ofV s.data.toList).2.1] 32)).cell? ⟨w4.heap.size, 1, none⟩ = some (.int .i64 (ofV s.data.toList).2.1) := by go_simp
  have zz : w.heap.size + 1 < (w4.alloc (.cells #[.int .i64 (ofV s.data.toList).1, .int .i64 (ofV s.data.toList).2.1] 32)).heap.size := by simp only [World.size_alloc]; omega
  have HW : Hid (Below w.heap.size w (w4.alloc (.cells #[.int .i64 (ofV s.data.toList).1, .int .i64 (ofV s.data.toList).2.1] 32))) := (w2_below _ _ _).trans ((nxta HB (.cells #[.int .i64 (ofV s.data.toList).1, .int .i64 (ofV s.data.toList).2.1] 32)).out.mono (by simp; omega))
  clear f0 f1 z0 z1 HX HB HTp hc hf hc1 hf1 kn kc kf
  generalize (w4.alloc (.cells #[.int .i64 (ofV s.data.toList).1, .int .i64 (ofV s.data.toList).2.1] 32)) = W2 at *
  generalize w3.heap.size = bx at *
  generalize w4.heap.size = bz at *
  have HT2 := hidT (HT.out.below HW.out)
  have kn := kin_some W2
  obtain ⟨kc, kf⟩ := kin_rules W2
  have HB : Hid (Below W2.heap.size W2 W2) := Below.refl _ _
  have zy : w.heap.size < W2.heap.size := by omega
  cases hv1 : vok k1 n1
  · go_wp2_with (first | (go_at_call 6; refine (same_p _ _).mono ?_; rintro e w5 ⟨rfl, rfl⟩) | (go_at_call 19; (first | refine (good_f _ _ _ hv1).mono ?_ | refine (good_t _ _ _ hv1).mono ?_ | refine (good_f _ _ _ hv2).mono ?_ | refine (good_t _ _ _ hv2).mono ?_); rintro e w6 ⟨rfl, hb⟩; have HB := nxt HB hb; obtain ⟨hc, hf⟩ := rules HB; clear hb))
    go_ret
    exact ⟨rfl, done HW.out HB⟩
  · cases hv2 : vok k1 n2
    · go_wp2_with (first | (go_at_call 6; refine (same_p _ _).mono ?_; rintro e w5 ⟨rfl, rfl⟩) | (go_at_call 19; (first | refine (good_f _ _ _ hv1).mono ?_ | refine (good_t _ _ _ hv1).mono ?_ | refine (good_f _ _ _ hv2).mono ?_ | refine (good_t _ _ _ hv2).mono ?_); rintro e w6 ⟨rfl, hb⟩; have HB := nxt HB hb; obtain ⟨hc, hf⟩ := rules HB; clear hb))
      go_ret
      exact ⟨rfl, done HW.out HB⟩
    · go_wp2_with (first | (go_at_call 6; refine (same_p _ _).mono ?_; rintro e w5 ⟨rfl, rfl⟩) | (go_at_call 19; (first | refine (good_f _ _ _ hv1).mono ?_ | refine (good_t _ _ _ hv1).mono ?_ | refine (good_f _ _ _ hv2).mono ?_ | refine (good_t _ _ _ hv2).mono ?_); rintro e w6 ⟨rfl, hb⟩; have HB := nxt HB hb; obtain ⟨hc, hf⟩ := rules HB; have HZ := hidT HB.out.size; obtain ⟨hc4, hf4⟩ := rules (nxta HB (.cells #[.int .i64 1, .int .i64 0, .int .i64 0, .int .i64 0, .int .i64 k1, .int .i64 n1, .int .i64 4, .int .i64 0, .int .i64 0, .int .i64 0, .int .i64 0, .int .i64 0] 44)); obtain ⟨hc5, hf5⟩ := rules (nxta (nxta HB (.cells #[.int .i64 1, .int .i64 0, .int .i64 0, .int .i64 0, .int .i64 k1, .int .i64 n1, .int .i64 4, .int .i64 0, .int .i64 0, .int .i64 0, .int .i64 0, .int .i64 0] 44)) (.cells #[.int .i64 1, .int .i64 0, .int .i64 0, .int .i64 0, .int .i64 k1, .int .i64 n1, .int .i64 3, .int .i64 0, .int .i64 0, .int .i64 0, .int .i64 0, .int .i64 0] 44)); clear hb))
      have c0 : ((w6.alloc (.cells #[.int .i64 1, .int .i64 0, .int .i64 0, .int .i64 0, .int .i64 k1, .int .i64 n1, .int .i64 4, .int .i64 0, .int .i64 0, .int .i64 0, .int .i64 0, .int .i64 0] 44)).alloc (.cells #[.int .i64 1, .int .i64 0, .int .i64 0, .int .i64 0, .int .i64 k1, .int .i64 n1, .int .i64 3, .int .i64 0, .int .i64 0, .int .i64 0, .int .i64 0, .int .i64 0] 44)).cell? ⟨w.heap.size, 0, none⟩ = some (.int .i64 k1) := by rw [hc5 _ _ zy]; exact a0
      have c1 : ((w6.alloc (.cells #[.int .i64 1, .int .i64 0, .int .i64 0, .int .i64 0, .int .i64 k1, .int .i64 n1, .int .i64 4, .int .i64 0, .int .i64 0, .int .i64 0, .int .i64 0, .int .i64 0] 44)).alloc (.cells #[.int .i64 1, .int .i64 0, .int .i64 0, .int .i64 0, .int .i64 k1, .int .i64 n1, .int .i64 3, .int .i64 0, .int .i64 0, .int .i64 0, .int .i64 0, .int .i64 0] 44)).cell? ⟨w.heap.size, 1, none⟩ = some (.int .i64 n1) := by rw [hc5 _ _ zy]; exact a1
      have d0 : ((w6.alloc (.cells #[.int .i64 1, .int .i64 0, .int .i64 0, .int .i64 0, .int .i64 k1, .int .i64 n1, .int .i64 4, .int .i64 0, .int .i64 0, .int .i64 0, .int .i64 0, .int .i64 0] 44)).alloc (.cells #[.int .i64 1, .int .i64 0, .int .i64 0, .int .i64 0, .int .i64 k1, .int .i64 n1, .int .i64 3, .int .i64 0, .int .i64 0, .int .i64 0, .int .i64 0, .int .i64 0] 44)).cell? ⟨w.heap.size + 1, 0, none⟩ = some (.int .i64 k1) := by rw [hc5 _ _ zz]; exact b0
      have d1 : ((w6.alloc (.cells #[.int .i64 1, .int .i64 0, .int .i64 0, .int .i64 0, .int .i64 k1, .int .i64 n1, .int .i64 4, .int .i64 0, .int .i64 0, .int .i64 0, .int .i64 0, .int .i64 0] 44)).alloc (.cells #[.int .i64 1, .int .i64 0, .int .i64 0, .int .i64 0, .int .i64 k1, .int .i64 n1, .int .i64 3, .int .i64 0, .int .i64 0, .int .i64 0, .int .i64 0, .int .i64 0] 44)).cell? ⟨w.heap.size + 1, 1, none⟩ = some (.int .i64 n2) := by rw [hc5 _ _ zz]; exact b1
      have T4 : TwoAt ((w6.alloc (.cells #[.int .i64 1, .int .i64 0, .int .i64 0, .int .i64 0, .int .i64 k1, .int .i64 n1, .int .i64 4, .int .i64 0, .int .i64 0, .int .i64 0, .int .i64 0, .int .i64 0] 44)).alloc (.cells #[.int .i64 1, .int .i64 0, .int .i64 0, .int .i64 0, .int .i64 k1, .int .i64 n1, .int .i64 3, .int .i64 0, .int .i64 0, .int .i64 0, .int .i64 0, .int .i64 0] 44)) w6.heap.size 4 k1 n1 := by
        unfold TwoAt
        refine ⟨?_, ?_, ?_, ?_, ?_, ?_, ?_, ?_, ?_, ?_, ?_, ?_⟩ <;> go_simp
      have T3 : TwoAt ((w6.alloc (.cells #[.int .i64 1, .int .i64 0, .int .i64 0, .int .i64 0, .int .i64 k1, .int .i64 n1, .int .i64 4, .int .i64 0, .int .i64 0, .int .i64 0, .int .i64 0, .int .i64 0] 44)).alloc (.cells #[.int .i64 1, .int .i64 0, .int .i64 0, .int .i64 0, .int .i64 k1, .int .i64 n1, .int .i64 3, .int .i64 0, .int .i64 0, .int .i64 0, .int .i64 0, .int .i64 0] 44)) (w6.heap.size + 1) 3 k1 n1 := by
        unfold TwoAt
        refine ⟨?_, ?_, ?_, ?_, ?_, ?_, ?_, ?_, ?_, ?_, ?_, ?_⟩ <;> go_simp
      have zn : w6.heap.size + 1 < ((w6.alloc (.cells #[.int .i64 1, .int .i64 0, .int .i64 0, .int .i64 0, .int .i64 k1, .int .i64 n1, .int .i64 4, .int .i64 0, .int .i64 0, .int .i64 0, .int .i64 0, .int .i64 0] 44)).alloc (.cells #[.int .i64 1, .int .i64 0, .int .i64 0, .int .i64 0, .int .i64 k1, .int .i64 n1, .int .i64 3, .int .i64 0, .int .i64 0, .int .i64 0, .int .i64 0, .int .i64 0] 44)).heap.size ∧ w.heap.size + 1 < ((w6.alloc (.cells #[.int .i64 1, .int .i64 0, .int .i64 0, .int .i64 0, .int .i64 k1, .int .i64 n1, .int .i64 4, .int .i64 0, .int .i64 0, .int .i64 0, .int .i64 0, .int .i64 0] 44)).alloc (.cells #[.int .i64 1, .int .i64 0, .int .i64 0, .int .i64 0, .int .i64 k1, .int .i64 n1, .int .i64 3, .int .i64 0, .int .i64 0, .int .i64 0, .int .i64 0, .int .i64 0] 44)).heap.size := by
        have := HZ.out
        simp only [World.size_alloc]
        omega
      have HW7 : Hid (Below w.heap.size w ((w6.alloc (.cells #[.int .i64 1, .int .i64 0, .int .i64 0, .int .i64 0, .int .i64 k1, .int .i64 n1, .int .i64 4, .int .i64 0, .int .i64 0, .int .i64 0, .int .i64 0, .int .i64 0] 44)).alloc (.cells #[.int .i64 1, .int .i64 0, .int .i64 0, .int .i64 0, .int .i64 k1, .int .i64 n1, .int .i64 3, .int .i64 0, .int .i64 0, .int .i64 0, .int .i64 0, .int .i64 0] 44))) := done HW.out (nxta (nxta HB (.cells #[.int .i64 1, .int .i64 0, .int .i64 0, .int .i64 0, .int .i64 k1, .int .i64 n1, .int .i64 4, .int .i64 0, .int .i64 0, .int .i64 0, .int .i64 0, .int .i64 0] 44)) (.cells #[.int .i64 1, .int .i64 0, .int .i64 0, .int .i64 0, .int .i64 k1, .int .i64 n1, .int .i64 3, .int .i64 0, .int .i64 0, .int .i64 0, .int .i64 0, .int .i64 0] 44))
      clear hc hf hc4 hf4 hc5 hf5 HZ HB HT2 a0 a1 b0 b1 x0 x1 y0 y1 zz zy kn kc kf
      generalize ((w6.alloc (.cells #[.int .i64 1, .int .i64 0, .int .i64 0, .int .i64 0, .int .i64 k1, .int .i64 n1, .int .i64 4, .int .i64 0, .int .i64 0, .int .i64 0, .int .i64 0, .int .i64 0] 44)).alloc (.cells #[.int .i64 1, .int .i64 0, .int .i64 0, .int .i64 0, .int .i64 k1, .int .i64 n1, .int .i64 3, .int .i64 0, .int .i64 0, .int .i64 0, .int .i64 0, .int .i64 0] 44)) = W7 at *
      generalize w6.heap.size = bn at *
      have HT7 := hidT (HT.out.below HW7.out)
      have T4 := hidT T4
      have T3 := hidT T3
      have kn := kin_some W7
      obtain ⟨kc, kf⟩ := kin_rules W7
      obtain ⟨zn, za⟩ := zn
      have zc : w.heap.size < W7.heap.size := by omega
      have HV := hidT hv1
      have HV2 := hidT hv2
      have zm : bn < W7.heap.size := by omega
      have d9 : doV 9 k1 n1 k1 n2 = (andK k1 n1 k1 n2, andN k1 n1 k1 n2) := by unfold doV; rw [if_pos rfl]
      have HR : Hid (-1000000000 ≤ n1 ∧ n1 ≤ 1000000000 ∧ -1000000000 ≤ n2 ∧ n2 ≤ 1000000000) := by
        have g1 := of_decide_eq_true hv1
        have g2 := of_decide_eq_true hv2
        show _ ∧ _ ∧ _ ∧ _
        omega
      clear hv1 hv2
      have hq : (n1 == n2) = false := by simp; omega
      refine (compare_c _ _ _ _ (-1) _ (by unfold vcmp cmpI; rw [if_pos rfl, if_pos h])).mono ?_
      rintro e w9 ⟨rfl, hb⟩
      have HB := hidT hb
      clear hb
      obtain ⟨hc, hf⟩ := rules HB
      go_wp2_with fail
      refine wp_region_kin HB (by kernel_rfl) (by kernel_rfl) ?_
      iterate 24 (go_big_quiet_step (first | (go_at_call 21; exact kin_of (do_any _ _ _ _ _ _ HR.out.1 HR.out.2.1 HR.out.2.2.1 HR.out.2.2.2)) | (go_at_call 22; exact kin_of (rdo_any _ _ _ _ _ _ HV.out HV2.out)) | (go_at_call 23; exact kin_of (and_any _ _ _ _ _)) | (go_at_call 24; exact kin_of (not_any _ _ _)) | (go_at_call 26; exact kin_of (neg_any _ _ _ HR.out.1 HR.out.2.1)) | (go_at_call 25; exact kin_of (ev_not _ _ _ _ (Nat.lt_of_lt_of_le zm (Kin.h _).size) (T4.out.below zm (Kin.h _)))) | (go_at_call 27; exact kin_of (text_g _ _ _ HV.out (HT7.out.below (Kin.h _)))) | (go_at_call 28; exact kin_of (rtext_g HD.out _ _ _ HV.out))))
      repeat (go_big_quiet_step (first | (go_at_call 21; exact kin_of (do_any _ _ _ _ _ _ HR.out.1 HR.out.2.1 HR.out.2.2.1 HR.out.2.2.2)) | (go_at_call 22; exact kin_of (rdo_any _ _ _ _ _ _ HV.out HV2.out)) | (go_at_call 23; exact kin_of (and_any _ _ _ _ _)) | (go_at_call 24; exact kin_of (not_any _ _ _)) | (go_at_call 26; exact kin_of (neg_any _ _ _ HR.out.1 HR.out.2.1)) | (go_at_call 25; exact kin_of (ev_neg _ _ _ _ HR.out.1 HR.out.2.1 (Nat.lt_of_lt_of_le zn (Kin.h _).size) (T3.out.below zn (Kin.h _)))) | (go_at_call 27; exact kin_of (text_g _ _ _ HV.out (HT7.out.below (Kin.h _)))) | (go_at_call 28; exact kin_of (rtext_g HD.out _ _ _ HV.out))))
      refine wpQuiet_nil ?_
      rintro _ ⟨q, rfl⟩
      go_wp2_with fail
      go_ret
      exact ⟨rfl, done HW7.out q.h⟩
end Go.Proofs.YticgfdcgobdlmaaDoor

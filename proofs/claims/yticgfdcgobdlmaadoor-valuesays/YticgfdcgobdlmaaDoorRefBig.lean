/- The contract of penstockref.Decimal, a number of several digits: the region that draws its order, taken by hand: the plain operations first, then the three orders that are left. Conditions: as named. -/
import Derived.Test.YticgfdcgobdlmaaDoorRefText
import Derived.Test.YticgfdcgobdlmaaDoorKin
import Derived.OrdersHeld
namespace Go.Proofs.YticgfdcgobdlmaaDoor
open Go.RowKit
set_option linter.unusedVariables false
set_option linter.unusedSimpArgs false
set_option maxRecDepth 100000 in
set_option maxHeartbeats 400000 in
theorem dec_big (n m t : Int) (l : List UInt8) (w : World) (h0 : 10 ≤ n) (h1 : n ≤ 1000000000) (hm : n.tdiv 10 = m) (ht : n.tmod 10 = t) (m0 : 0 ≤ m) (m1 : m ≤ 100000000) (t0 : 0 ≤ t) (t1 : t < 10) (hl : l.length ≤ 12) (ih : ∀ w, Calls Tryd.prog 35 #[.int .i64 m] w fun e w' => e = .returned (.string ⟨l.toArray⟩) ∧ Below w.heap.size w w') :
    Calls Tryd.prog 35 #[.int .i64 n] w fun e w' => e = .returned (.string (⟨l.toArray⟩ ++ ⟨#[UInt8.ofNat (48 + t).toNat]⟩)) ∧ Below w.heap.size w w' := by
  have IH := hidR ih
  clear ih
  have wm : IntKind.i64.wrap m = m := by unfold IntKind.wrap; simp [IntKind.bits, IntKind.signed]; omega
  have wt : IntKind.i64.wrap (48 + t) = 48 + t := by unfold IntKind.wrap; simp [IntKind.bits, IntKind.signed]; omega
  have wu : IntKind.u8.wrap (48 + t) = 48 + t := by unfold IntKind.wrap; simp [IntKind.bits, IntKind.signed]; omega
  have hS : Below w.heap.size w { w with drawn := w.drawn + 1 } := (Below.refl _ _).drew
  go_enter Tryd.func35, Tryd.ntmps35
  go_wp2_with fail
  refine wp_region_held (S := fun w' => Below w.heap.size w w') (by kernel_rfl) ?_
  generalize hw0 : ({ w with drawn := w.drawn + 1 } : World) = w0 at *
  refine wpAnyH_take (i := 0) (v := .int .i64 n) rfl (by kernel_rfl) (by kernel_rfl) (by kernel_rfl) (fun c a w h => h) (Or.inl ⟨by kernel_rfl, fun w _ => by go_simp⟩) hS ?_
  refine wpAnyH_take (i := 3) (v := .int .i64 n) rfl (by kernel_rfl) (by kernel_rfl) (by kernel_rfl) (fun c a w h => h) (Or.inl ⟨by kernel_rfl, fun w _ => by go_simp⟩) hS ?_
  refine wpAnyH_take (i := 1) (v := .int .i64 m) rfl (by kernel_rfl) (by kernel_rfl) (by kernel_rfl) (fun c a w h => h) (Or.inl ⟨by kernel_rfl, fun w _ => by go_simp⟩) hS ?_
  refine wpAnyH_take (i := 4) (v := .int .i64 t) rfl (by kernel_rfl) (by kernel_rfl) (by kernel_rfl) (fun c a w h => h) (Or.inl ⟨by kernel_rfl, fun w _ => by go_simp⟩) hS ?_
  refine wpAnyH_take (i := 5) (v := .int .i64 (48 + t)) rfl (by kernel_rfl) (by kernel_rfl) (by kernel_rfl) (fun c a w h => h) (Or.inl ⟨by kernel_rfl, fun w _ => by go_simp⟩) hS ?_
  refine wpAnyH_take (i := 6) (v := .int .u8 (48 + t)) rfl (by kernel_rfl) (by kernel_rfl) (by kernel_rfl) (fun c a w h => h) (Or.inl ⟨by kernel_rfl, fun w _ => by go_simp⟩) hS ?_
  refine wpAnyH_all (rs := [2, 7]) (by kernel_rfl) (by simp) ?_
  intro i hi
  simp only [List.mem_cons, List.not_mem_nil, or_false] at hi
  rcases hi with rfl | rfl
  · refine wpOp_step rfl ?_
    intro K' hK
    rw [if_pos (by kernel_rfl)]
    go_simp
    refine (IH.out _).mono ?_
    rintro e w1 ⟨rfl, hb⟩
    have S1 := hS.trans (hb.mono hS.size)
    clear hb
    refine hK _ _ ⟨S1, ?_⟩
    clear hK
    refine wpAnyH_all (rs := [7]) (by kernel_rfl) (by simp) ?_
    intro i hi
    simp only [List.mem_cons, List.not_mem_nil, or_false] at hi
    subst hi
    refine wpOp_step rfl ?_
    intro K' hK
    rw [if_pos (by kernel_rfl)]
    go_simp
    have S2 := S1.alloc S1.size (.cells #[.int .u8 (48 + t)] 5)
    refine hK _ _ ⟨S2, ?_⟩
    clear hK
    have hcv := conv_one (w1.alloc (.cells #[.int .u8 (48 + t)] 5)) w1.heap.size (48 + t) (by go_simp)
    refine wpAnyH_all (rs := [8]) (by kernel_rfl) (by simp) ?_
    intro i hi
    simp only [List.mem_cons, List.not_mem_nil, or_false] at hi
    subst hi
    refine wpOp_step rfl ?_
    intro K' hK
    rw [if_pos (by kernel_rfl)]
    go_simp
    refine hK _ _ ⟨S2, ?_⟩
    clear hK hcv
    refine wpAnyH_all (rs := [9]) (by kernel_rfl) (by simp) ?_
    intro i hi
    simp only [List.mem_cons, List.not_mem_nil, or_false] at hi
    subst hi
    refine wpOp_step rfl ?_
    intro K' hK
    rw [if_pos (by kernel_rfl)]
    go_simp
    rw [if_neg (by omega)]
    go_simp
    refine hK _ _ ⟨S2, ?_⟩
    clear hK
    refine wpAnyH_all (rs := [10]) (by kernel_rfl) (by simp) ?_
    intro i hi
    simp only [List.mem_cons, List.not_mem_nil, or_false] at hi
    subst hi
    refine wpOp_step rfl ?_
    intro K' hK
    rw [if_pos (by kernel_rfl)]
    go_simp
    refine hK _ _ ⟨S2, ?_⟩
    clear hK
    refine wpAnyH_done (by kernel_rfl) ?_ _
    go_wp2_with fail
    go_ret
    exact ⟨rfl, S2⟩
  · refine wpOp_step rfl ?_
    intro K' hK
    rw [if_pos (by kernel_rfl)]
    go_simp
    have S1 := hS.alloc hS.size (.cells #[.int .u8 (48 + t)] 5)
    refine hK _ _ ⟨S1, ?_⟩
    clear hK
    refine wpAnyH_all (rs := [2, 8]) (by kernel_rfl) (by simp) ?_
    intro i hi
    simp only [List.mem_cons, List.not_mem_nil, or_false] at hi
    rcases hi with rfl | rfl
    · refine wpOp_step rfl ?_
      intro K' hK
      rw [if_pos (by kernel_rfl)]
      go_simp
      refine (IH.out _).mono ?_
      rintro e w1 ⟨rfl, hb⟩
      have S2 := S1.trans (hb.mono S1.size)
      have hcv := conv_one w1 w0.heap.size (48 + t) (by rw [hb.cell (p := ⟨w0.heap.size, 0, none⟩) (by simp)]; go_simp)
      clear hb
      refine hK _ _ ⟨S2, ?_⟩
      clear hK
      refine wpAnyH_all (rs := [8]) (by kernel_rfl) (by simp) ?_
      intro i hi
      simp only [List.mem_cons, List.not_mem_nil, or_false] at hi
      subst hi
      refine wpOp_step rfl ?_
      intro K' hK
      rw [if_pos (by kernel_rfl)]
      go_simp
      refine hK _ _ ⟨S2, ?_⟩
      clear hK hcv
      refine wpAnyH_all (rs := [9]) (by kernel_rfl) (by simp) ?_
      intro i hi
      simp only [List.mem_cons, List.not_mem_nil, or_false] at hi
      subst hi
      refine wpOp_step rfl ?_
      intro K' hK
      rw [if_pos (by kernel_rfl)]
      go_simp
      rw [if_neg (by omega)]
      go_simp
      refine hK _ _ ⟨S2, ?_⟩
      clear hK
      refine wpAnyH_all (rs := [10]) (by kernel_rfl) (by simp) ?_
      intro i hi
      simp only [List.mem_cons, List.not_mem_nil, or_false] at hi
      subst hi
      refine wpOp_step rfl ?_
      intro K' hK
      rw [if_pos (by kernel_rfl)]
      go_simp
      refine hK _ _ ⟨S2, ?_⟩
      clear hK
      refine wpAnyH_done (by kernel_rfl) ?_ _
      go_wp2_with fail
      go_ret
      exact ⟨rfl, S2⟩
    · refine wpOp_step rfl ?_
      intro K' hK
      rw [if_pos (by kernel_rfl)]
      have hcv := conv_one (w0.alloc (.cells #[.int .u8 (48 + t)] 5)) w0.heap.size (48 + t) (by go_simp)
      go_simp
      refine hK _ _ ⟨S1, ?_⟩
      clear hK hcv
      refine wpAnyH_all (rs := [2]) (by kernel_rfl) (by simp) ?_
      intro i hi
      simp only [List.mem_cons, List.not_mem_nil, or_false] at hi
      subst hi
      refine wpOp_step rfl ?_
      intro K' hK
      rw [if_pos (by kernel_rfl)]
      go_simp
      refine (IH.out _).mono ?_
      rintro e w1 ⟨rfl, hb⟩
      have S2 := S1.trans (hb.mono S1.size)
      clear hb
      refine hK _ _ ⟨S2, ?_⟩
      clear hK
      refine wpAnyH_all (rs := [9]) (by kernel_rfl) (by simp) ?_
      intro i hi
      simp only [List.mem_cons, List.not_mem_nil, or_false] at hi
      subst hi
      refine wpOp_step rfl ?_
      intro K' hK
      rw [if_pos (by kernel_rfl)]
      go_simp
      rw [if_neg (by omega)]
      go_simp
      refine hK _ _ ⟨S2, ?_⟩
      clear hK
      refine wpAnyH_all (rs := [10]) (by kernel_rfl) (by simp) ?_
      intro i hi
      simp only [List.mem_cons, List.not_mem_nil, or_false] at hi
      subst hi
      refine wpOp_step rfl ?_
      intro K' hK
      rw [if_pos (by kernel_rfl)]
      go_simp
      refine hK _ _ ⟨S2, ?_⟩
      clear hK
      refine wpAnyH_done (by kernel_rfl) ?_ _
      go_wp2_with fail
      go_ret
      exact ⟨rfl, S2⟩
end Go.Proofs.YticgfdcgobdlmaaDoor

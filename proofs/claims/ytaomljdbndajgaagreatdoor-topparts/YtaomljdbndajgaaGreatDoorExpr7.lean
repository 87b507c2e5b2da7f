/- The contract of Eval of package expr, over this seat's translation. Conditions: the nodes and the event may be. -/
import Derived.Test.YtaomljdbndajgaaGreatDoorExpr6
import Derived.Test.YtaomljdbndajgaaGreatDoorBaseJ
namespace Go.Proofs.YtaomljdbndajgaaGreatDoor
open Go.ChangeShapes Go.WideShapes Go.ChangeAt Go.RowKit
set_option linter.unusedVariables false
set_option linter.unusedSimpArgs false

def aggE (t k1 k2 a1 a2 b1 b2 : Int) : Value := .agg #[.int .i64 t, .int .i64 k1, .int .i64 k2, .int .i64 a1, .int .i64 a2, .int .i64 b1, .int .i64 b2]
def evE (t k1 k2 a1 a2 b1 b2 : Int) : List V2 := [numV t, (k1, k2), (a1, a2), (b1, b2)]

theorem infoV : (Tryz.prog.info? 26).map (fun i => (i.zero, i.size, i.bytes)) = some (some (.agg #[.int .i64 0, .int .i64 0]), 2, 16) := by kernel_rfl

set_option maxRecDepth 100000 in
set_option maxHeartbeats 2000000 in
theorem eval_any (l : List Nd) (v : Value) (t k1 k2 a1 a2 b1 b2 : Int) (w : World) (hl : l.length ≤ 1000) (hr : RowG w v 6 l.length (rowN l)) (hok : ∀ n ∈ l, okN n = 0) (hev : ∀ p ∈ evE t k1 k2 a1 a2 b1 b2, okV p) :
    Calls Tryz.prog 63 #[v, aggE t k1 k2 a1 a2 b1 b2] w fun e w' => e = .returned (aggV (evL opV (evE t k1 k2 a1 a2 b1 b2) l)) ∧ Below w.heap.size w w' := by
  obtain ⟨ao, cap, rfl⟩ := rowG_shape hr
  obtain ⟨i0, hi0, hz0, hz1, hz2⟩ := info_parts infoV
  have HR := hidE hr
  have HOK := hidE hok
  have HEV := hidE hev
  clear hr hok hev
  have H2 : Hid (Below w.heap.size w ((w.alloc (.cells #[.int .i64 t, .int .i64 k1, .int .i64 k2, .int .i64 a1, .int .i64 a2, .int .i64 b1, .int .i64 b2] 49)).alloc (.cells #[.int .i64 0, .int .i64 0] 26))) := ((Below.refl _ _).alloc (Nat.le_refl _) _).alloc (by simp) _
  have HB0 : Hid (Below ((w.alloc (.cells #[.int .i64 t, .int .i64 k1, .int .i64 k2, .int .i64 a1, .int .i64 a2, .int .i64 b1, .int .i64 b2] 49)).alloc (.cells #[.int .i64 0, .int .i64 0] 26)).heap.size ((w.alloc (.cells #[.int .i64 t, .int .i64 k1, .int .i64 k2, .int .i64 a1, .int .i64 a2, .int .i64 b1, .int .i64 b2] 49)).alloc (.cells #[.int .i64 0, .int .i64 0] 26)) { ((w.alloc (.cells #[.int .i64 t, .int .i64 k1, .int .i64 k2, .int .i64 a1, .int .i64 a2, .int .i64 b1, .int .i64 b2] 49)).alloc (.cells #[.int .i64 0, .int .i64 0] 26)) with drawn := ((w.alloc (.cells #[.int .i64 t, .int .i64 k1, .int .i64 k2, .int .i64 a1, .int .i64 a2, .int .i64 b1, .int .i64 b2] 49)).alloc (.cells #[.int .i64 0, .int .i64 0] 26)).drawn + 1 }) := (Below.refl _ _).drew
  have n0 : ((w.alloc (.cells #[.int .i64 t, .int .i64 k1, .int .i64 k2, .int .i64 a1, .int .i64 a2, .int .i64 b1, .int .i64 b2] 49)).alloc (.cells #[.int .i64 0, .int .i64 0] 26)).cell? ⟨w.heap.size, 0, none⟩ = some (.int .i64 t) := by go_simp
  have n1 : ((w.alloc (.cells #[.int .i64 t, .int .i64 k1, .int .i64 k2, .int .i64 a1, .int .i64 a2, .int .i64 b1, .int .i64 b2] 49)).alloc (.cells #[.int .i64 0, .int .i64 0] 26)).cell? ⟨w.heap.size, 1, none⟩ = some (.int .i64 k1) := by go_simp
  have n2 : ((w.alloc (.cells #[.int .i64 t, .int .i64 k1, .int .i64 k2, .int .i64 a1, .int .i64 a2, .int .i64 b1, .int .i64 b2] 49)).alloc (.cells #[.int .i64 0, .int .i64 0] 26)).cell? ⟨w.heap.size, 2, none⟩ = some (.int .i64 k2) := by go_simp
  have n3 : ((w.alloc (.cells #[.int .i64 t, .int .i64 k1, .int .i64 k2, .int .i64 a1, .int .i64 a2, .int .i64 b1, .int .i64 b2] 49)).alloc (.cells #[.int .i64 0, .int .i64 0] 26)).cell? ⟨w.heap.size, 3, none⟩ = some (.int .i64 a1) := by go_simp
  have n4 : ((w.alloc (.cells #[.int .i64 t, .int .i64 k1, .int .i64 k2, .int .i64 a1, .int .i64 a2, .int .i64 b1, .int .i64 b2] 49)).alloc (.cells #[.int .i64 0, .int .i64 0] 26)).cell? ⟨w.heap.size, 4, none⟩ = some (.int .i64 a2) := by go_simp
  have n5 : ((w.alloc (.cells #[.int .i64 t, .int .i64 k1, .int .i64 k2, .int .i64 a1, .int .i64 a2, .int .i64 b1, .int .i64 b2] 49)).alloc (.cells #[.int .i64 0, .int .i64 0] 26)).cell? ⟨w.heap.size, 5, none⟩ = some (.int .i64 b1) := by go_simp
  have n6 : ((w.alloc (.cells #[.int .i64 t, .int .i64 k1, .int .i64 k2, .int .i64 a1, .int .i64 a2, .int .i64 b1, .int .i64 b2] 49)).alloc (.cells #[.int .i64 0, .int .i64 0] 26)).cell? ⟨w.heap.size, 6, none⟩ = some (.int .i64 b2) := by go_simp
  have hT : evL opV (evE t k1 k2 a1 a2 b1 b2) l = nth (evF opV (evE t k1 k2 a1 a2 b1 b2) l []) ((l.length : Int) - 1) := rfl
  rw [hT]
  clear hT
  generalize hF : evF opV (evE t k1 k2 a1 a2 b1 b2) l [] = T
  have HF := hidE hF
  clear hF
  unfold aggE
  go_enter Tryz.func63, Tryz.ntmps63
  go_wp2_with fail
  refine wp_region_held (S := Below ((w.alloc (.cells #[.int .i64 t, .int .i64 k1, .int .i64 k2, .int .i64 a1, .int .i64 a2, .int .i64 b1, .int .i64 b2] 49)).alloc (.cells #[.int .i64 0, .int .i64 0] 26)).heap.size ((w.alloc (.cells #[.int .i64 t, .int .i64 k1, .int .i64 k2, .int .i64 a1, .int .i64 a2, .int .i64 b1, .int .i64 b2] 49)).alloc (.cells #[.int .i64 0, .int .i64 0] 26))) (by kernel_rfl) ?_
  generalize hw0 : ({ ((w.alloc (.cells #[.int .i64 t, .int .i64 k1, .int .i64 k2, .int .i64 a1, .int .i64 a2, .int .i64 b1, .int .i64 b2] 49)).alloc (.cells #[.int .i64 0, .int .i64 0] 26)) with drawn := ((w.alloc (.cells #[.int .i64 t, .int .i64 k1, .int .i64 k2, .int .i64 a1, .int .i64 a2, .int .i64 b1, .int .i64 b2] 49)).alloc (.cells #[.int .i64 0, .int .i64 0] 26)).drawn + 1 } : World) = w0 at *
  clear hw0
  refine wpAnyH_take (i := 0) (v := .pointer (some ⟨w.heap.size, 0, none⟩)) rfl (by kernel_rfl) (by kernel_rfl) (by kernel_rfl) (fun c a w h => h) (Or.inl ⟨by kernel_rfl, fun wq h => by go_simp⟩) HB0.out ?_
  refine wpAnyH_take (i := 1) (v := .int .i64 t) rfl (by kernel_rfl) (by kernel_rfl) (by kernel_rfl) (fun c a w h => h) (Or.inl ⟨by kernel_rfl, fun wq h => by have q := h.cell (p := ⟨w.heap.size, 0, none⟩) (by simp only [World.size_alloc]; omega); rw [n0] at q; go_simp⟩) HB0.out ?_
  refine wpAnyH_take (i := 3) (v := .pointer (some ⟨w.heap.size, 1, none⟩)) rfl (by kernel_rfl) (by kernel_rfl) (by kernel_rfl) (fun c a w h => h) (Or.inl ⟨by kernel_rfl, fun wq h => by go_simp⟩) HB0.out ?_
  refine wpAnyH_take (i := 4) (v := .agg #[.int .i64 k1, .int .i64 k2]) rfl (by kernel_rfl) (by kernel_rfl) (by kernel_rfl) (fun c a w h => h) (Or.inl ⟨by kernel_rfl, fun wq h => by have q := h.cell (p := ⟨w.heap.size, 1, none⟩) (by simp only [World.size_alloc]; omega); have r := h.cell (p := ⟨w.heap.size, 2, none⟩) (by simp only [World.size_alloc]; omega); rw [n1] at q; rw [n2] at r; go_simp⟩) HB0.out ?_
  refine wpAnyH_take (i := 5) (v := .pointer (some ⟨w.heap.size, 3, none⟩)) rfl (by kernel_rfl) (by kernel_rfl) (by kernel_rfl) (fun c a w h => h) (Or.inl ⟨by kernel_rfl, fun wq h => by go_simp⟩) HB0.out ?_
  refine wpAnyH_take (i := 6) (v := .agg #[.int .i64 a1, .int .i64 a2]) rfl (by kernel_rfl) (by kernel_rfl) (by kernel_rfl) (fun c a w h => h) (Or.inl ⟨by kernel_rfl, fun wq h => by have q := h.cell (p := ⟨w.heap.size, 3, none⟩) (by simp only [World.size_alloc]; omega); have r := h.cell (p := ⟨w.heap.size, 4, none⟩) (by simp only [World.size_alloc]; omega); rw [n3] at q; rw [n4] at r; go_simp⟩) HB0.out ?_
  refine wpAnyH_take (i := 7) (v := .pointer (some ⟨w.heap.size, 5, none⟩)) rfl (by kernel_rfl) (by kernel_rfl) (by kernel_rfl) (fun c a w h => h) (Or.inl ⟨by kernel_rfl, fun wq h => by go_simp⟩) HB0.out ?_
  refine wpAnyH_take (i := 8) (v := .agg #[.int .i64 b1, .int .i64 b2]) rfl (by kernel_rfl) (by kernel_rfl) (by kernel_rfl) (fun c a w h => h) (Or.inl ⟨by kernel_rfl, fun wq h => by have q := h.cell (p := ⟨w.heap.size, 5, none⟩) (by simp only [World.size_alloc]; omega); have r := h.cell (p := ⟨w.heap.size, 6, none⟩) (by simp only [World.size_alloc]; omega); rw [n5] at q; rw [n6] at r; go_simp⟩) HB0.out ?_
  refine wpAnyH_all (rs := [2, 10]) (by kernel_rfl) (by simp) ?_
  intro i hi
  simp only [List.mem_cons, List.not_mem_nil, or_false] at hi
  rcases hi with rfl | rfl
  case' inl =>
    refine wpOp_step rfl ?_
    intro K' hK
    rw [if_pos (by kernel_rfl)]
    go_simp
    refine (number_any _ _).mono ?_
    rintro e w1 ⟨rfl, hb⟩
    have HB1 := hidE (HB0.out.trans (hb.mono HB0.out.size))
    clear hb
    refine hK _ _ ⟨HB1.out, ?_⟩
    clear hK
    refine wpAnyH_take (i := 9) (v := .agg #[.int .i64 (numK t), .int .i64 (numN t), .int .i64 (k1), .int .i64 (k2), .int .i64 (a1), .int .i64 (a2), .int .i64 (b1), .int .i64 (b2)]) rfl (by kernel_rfl) (by kernel_rfl) (by kernel_rfl) (fun c a w h => h) (Or.inl ⟨by kernel_rfl, fun wq h => by go_simp⟩) HB1.out ?_
    refine wpAnyH_all (rs := [10]) (by kernel_rfl) (by simp) ?_
    intro i hi
    simp only [List.mem_cons, List.not_mem_nil, or_false] at hi
    subst hi
    refine wpOp_step rfl ?_
    intro K' hK
    rw [if_pos (by kernel_rfl)]
    go_simp
    have HB2 : Hid (Below ((w.alloc (.cells #[.int .i64 t, .int .i64 k1, .int .i64 k2, .int .i64 a1, .int .i64 a2, .int .i64 b1, .int .i64 b2] 49)).alloc (.cells #[.int .i64 0, .int .i64 0] 26)).heap.size ((w.alloc (.cells #[.int .i64 t, .int .i64 k1, .int .i64 k2, .int .i64 a1, .int .i64 a2, .int .i64 b1, .int .i64 b2] 49)).alloc (.cells #[.int .i64 0, .int .i64 0] 26)) (w1.alloc (.cells #[.int .i64 0, .int .i64 0, .int .i64 0, .int .i64 0, .int .i64 0, .int .i64 0, .int .i64 0, .int .i64 0] 144))) := HB1.out.alloc HB1.out.size _
    refine hK _ _ ⟨HB2.out, ?_⟩
    clear hK
    refine wpAnyH_all (rs := [11]) (by kernel_rfl) (by simp) ?_
    intro i hi
    simp only [List.mem_cons, List.not_mem_nil, or_false] at hi
    subst hi
    refine wpOp_step rfl ?_
    intro K' hK
    rw [if_pos (by kernel_rfl)]
    go_simp
    have HBx : Hid (Below ((w.alloc (.cells #[.int .i64 t, .int .i64 k1, .int .i64 k2, .int .i64 a1, .int .i64 a2, .int .i64 b1, .int .i64 b2] 49)).alloc (.cells #[.int .i64 0, .int .i64 0] 26)).heap.size ((w.alloc (.cells #[.int .i64 t, .int .i64 k1, .int .i64 k2, .int .i64 a1, .int .i64 a2, .int .i64 b1, .int .i64 b2] 49)).alloc (.cells #[.int .i64 0, .int .i64 0] 26)) (w1.alloc (.cells #[.int .i64 (numK t), .int .i64 (numN t), .int .i64 k1, .int .i64 k2, .int .i64 a1, .int .i64 a2, .int .i64 b1, .int .i64 b2] 144))) := HB1.out.alloc HB1.out.size _
    refine hK _ _ ⟨HBx.out, ?_⟩
    clear hK
    refine wpAnyH_done (by kernel_rfl) ?_ _
    have c0 : (w1.alloc (.cells #[.int .i64 (numK t), .int .i64 (numN t), .int .i64 k1, .int .i64 k2, .int .i64 a1, .int .i64 a2, .int .i64 b1, .int .i64 b2] 144)).cell? ⟨w1.heap.size, 0, none⟩ = some (.int .i64 (numK t)) := by go_simp
    have c1 : (w1.alloc (.cells #[.int .i64 (numK t), .int .i64 (numN t), .int .i64 k1, .int .i64 k2, .int .i64 a1, .int .i64 a2, .int .i64 b1, .int .i64 b2] 144)).cell? ⟨w1.heap.size, 1, none⟩ = some (.int .i64 (numN t)) := by go_simp
    have c2 : (w1.alloc (.cells #[.int .i64 (numK t), .int .i64 (numN t), .int .i64 k1, .int .i64 k2, .int .i64 a1, .int .i64 a2, .int .i64 b1, .int .i64 b2] 144)).cell? ⟨w1.heap.size, 2, none⟩ = some (.int .i64 (k1)) := by go_simp
    have c3 : (w1.alloc (.cells #[.int .i64 (numK t), .int .i64 (numN t), .int .i64 k1, .int .i64 k2, .int .i64 a1, .int .i64 a2, .int .i64 b1, .int .i64 b2] 144)).cell? ⟨w1.heap.size, 3, none⟩ = some (.int .i64 (k2)) := by go_simp
    have c4 : (w1.alloc (.cells #[.int .i64 (numK t), .int .i64 (numN t), .int .i64 k1, .int .i64 k2, .int .i64 a1, .int .i64 a2, .int .i64 b1, .int .i64 b2] 144)).cell? ⟨w1.heap.size, 4, none⟩ = some (.int .i64 (a1)) := by go_simp
    have c5 : (w1.alloc (.cells #[.int .i64 (numK t), .int .i64 (numN t), .int .i64 k1, .int .i64 k2, .int .i64 a1, .int .i64 a2, .int .i64 b1, .int .i64 b2] 144)).cell? ⟨w1.heap.size, 5, none⟩ = some (.int .i64 (a2)) := by go_simp
    have c6 : (w1.alloc (.cells #[.int .i64 (numK t), .int .i64 (numN t), .int .i64 k1, .int .i64 k2, .int .i64 a1, .int .i64 a2, .int .i64 b1, .int .i64 b2] 144)).cell? ⟨w1.heap.size, 6, none⟩ = some (.int .i64 (b1)) := by go_simp
    have c7 : (w1.alloc (.cells #[.int .i64 (numK t), .int .i64 (numN t), .int .i64 k1, .int .i64 k2, .int .i64 a1, .int .i64 a2, .int .i64 b1, .int .i64 b2] 144)).cell? ⟨w1.heap.size, 7, none⟩ = some (.int .i64 (b2)) := by go_simp
    have hgl : w1.heap.size < (w1.alloc (.cells #[.int .i64 (numK t), .int .i64 (numN t), .int .i64 k1, .int .i64 k2, .int .i64 a1, .int .i64 a2, .int .i64 b1, .int .i64 b2] 144)).heap.size := by simp
    generalize (w1.alloc (.cells #[.int .i64 (numK t), .int .i64 (numN t), .int .i64 k1, .int .i64 k2, .int .i64 a1, .int .i64 a2, .int .i64 b1, .int .i64 b2] 144)) = wx at *
    generalize w1.heap.size = gh at *
    clear HB1 HB2 HB0 n0 n1 n2 n3 n4 n5 n6 w1 w0
  case' inr =>
    refine wpOp_step rfl ?_
    intro K' hK
    rw [if_pos (by kernel_rfl)]
    go_simp
    have HB1 : Hid (Below ((w.alloc (.cells #[.int .i64 t, .int .i64 k1, .int .i64 k2, .int .i64 a1, .int .i64 a2, .int .i64 b1, .int .i64 b2] 49)).alloc (.cells #[.int .i64 0, .int .i64 0] 26)).heap.size ((w.alloc (.cells #[.int .i64 t, .int .i64 k1, .int .i64 k2, .int .i64 a1, .int .i64 a2, .int .i64 b1, .int .i64 b2] 49)).alloc (.cells #[.int .i64 0, .int .i64 0] 26)) (w0.alloc (.cells #[.int .i64 0, .int .i64 0, .int .i64 0, .int .i64 0, .int .i64 0, .int .i64 0, .int .i64 0, .int .i64 0] 144))) := HB0.out.alloc HB0.out.size _
    have hsz0 : w.heap.size + 2 ≤ w0.heap.size := by
      have := HB0.out.size
      simp only [World.size_alloc] at this
      omega
    refine hK _ _ ⟨HB1.out, ?_⟩
    clear hK
    refine wpAnyH_all (rs := [2]) (by kernel_rfl) (by simp) ?_
    intro i hi
    simp only [List.mem_cons, List.not_mem_nil, or_false] at hi
    subst hi
    refine wpOp_step rfl ?_
    intro K' hK
    rw [if_pos (by kernel_rfl)]
    go_simp
    refine (number_any _ _).mono ?_
    rintro e w1 ⟨rfl, hb⟩
    have HB2 := hidE (HB1.out.trans (hb.mono HB1.out.size))
    obtain ⟨hc, hf⟩ := bcell hb
    have hgl0 : w0.heap.size < w1.heap.size := by
      have := hb.size
      simp only [World.size_alloc] at this
      omega
    clear hb
    refine hK _ _ ⟨HB2.out, ?_⟩
    clear hK
    refine wpAnyH_take (i := 9) (v := .agg #[.int .i64 (numK t), .int .i64 (numN t), .int .i64 (k1), .int .i64 (k2), .int .i64 (a1), .int .i64 (a2), .int .i64 (b1), .int .i64 (b2)]) rfl (by kernel_rfl) (by kernel_rfl) (by kernel_rfl) (fun c a w h => h) (Or.inl ⟨by kernel_rfl, fun wq h => by go_simp⟩) HB2.out ?_
    refine wpAnyH_all (rs := [11]) (by kernel_rfl) (by simp) ?_
    intro i hi
    simp only [List.mem_cons, List.not_mem_nil, or_false] at hi
    subst hi
    refine wpOp_step rfl ?_
    intro K' hK
    rw [if_pos (by kernel_rfl)]
    go_simp
    have HBx : Hid (Below ((w.alloc (.cells #[.int .i64 t, .int .i64 k1, .int .i64 k2, .int .i64 a1, .int .i64 a2, .int .i64 b1, .int .i64 b2] 49)).alloc (.cells #[.int .i64 0, .int .i64 0] 26)).heap.size ((w.alloc (.cells #[.int .i64 t, .int .i64 k1, .int .i64 k2, .int .i64 a1, .int .i64 a2, .int .i64 b1, .int .i64 b2] 49)).alloc (.cells #[.int .i64 0, .int .i64 0] 26)) ((((((((w1.setCell ⟨w0.heap.size, 0, none⟩ (.int .i64 (numK t))).setCell ⟨w0.heap.size, 1, none⟩ (.int .i64 (numN t))).setCell ⟨w0.heap.size, 2, none⟩ (.int .i64 (k1))).setCell ⟨w0.heap.size, 3, none⟩ (.int .i64 (k2))).setCell ⟨w0.heap.size, 4, none⟩ (.int .i64 (a1))).setCell ⟨w0.heap.size, 5, none⟩ (.int .i64 (a2))).setCell ⟨w0.heap.size, 6, none⟩ (.int .i64 (b1))).setCell ⟨w0.heap.size, 7, none⟩ (.int .i64 (b2)))) := ((((((((HB2.out.setCell (p := ⟨w0.heap.size, 0, none⟩) (by simp only [World.size_alloc]; omega) _).setCell (p := ⟨w0.heap.size, 1, none⟩) (by simp only [World.size_alloc]; omega) _).setCell (p := ⟨w0.heap.size, 2, none⟩) (by simp only [World.size_alloc]; omega) _).setCell (p := ⟨w0.heap.size, 3, none⟩) (by simp only [World.size_alloc]; omega) _).setCell (p := ⟨w0.heap.size, 4, none⟩) (by simp only [World.size_alloc]; omega) _).setCell (p := ⟨w0.heap.size, 5, none⟩) (by simp only [World.size_alloc]; omega) _).setCell (p := ⟨w0.heap.size, 6, none⟩) (by simp only [World.size_alloc]; omega) _).setCell (p := ⟨w0.heap.size, 7, none⟩) (by simp only [World.size_alloc]; omega) _)
    refine hK _ _ ⟨HBx.out, ?_⟩
    clear hK
    refine wpAnyH_done (by kernel_rfl) ?_ _
    have c0 : ((((((((w1.setCell ⟨w0.heap.size, 0, none⟩ (.int .i64 (numK t))).setCell ⟨w0.heap.size, 1, none⟩ (.int .i64 (numN t))).setCell ⟨w0.heap.size, 2, none⟩ (.int .i64 (k1))).setCell ⟨w0.heap.size, 3, none⟩ (.int .i64 (k2))).setCell ⟨w0.heap.size, 4, none⟩ (.int .i64 (a1))).setCell ⟨w0.heap.size, 5, none⟩ (.int .i64 (a2))).setCell ⟨w0.heap.size, 6, none⟩ (.int .i64 (b1))).setCell ⟨w0.heap.size, 7, none⟩ (.int .i64 (b2))).cell? ⟨w0.heap.size, 0, none⟩ = some (.int .i64 (numK t)) := by go_simp
    have c1 : ((((((((w1.setCell ⟨w0.heap.size, 0, none⟩ (.int .i64 (numK t))).setCell ⟨w0.heap.size, 1, none⟩ (.int .i64 (numN t))).setCell ⟨w0.heap.size, 2, none⟩ (.int .i64 (k1))).setCell ⟨w0.heap.size, 3, none⟩ (.int .i64 (k2))).setCell ⟨w0.heap.size, 4, none⟩ (.int .i64 (a1))).setCell ⟨w0.heap.size, 5, none⟩ (.int .i64 (a2))).setCell ⟨w0.heap.size, 6, none⟩ (.int .i64 (b1))).setCell ⟨w0.heap.size, 7, none⟩ (.int .i64 (b2))).cell? ⟨w0.heap.size, 1, none⟩ = some (.int .i64 (numN t)) := by go_simp
    have c2 : ((((((((w1.setCell ⟨w0.heap.size, 0, none⟩ (.int .i64 (numK t))).setCell ⟨w0.heap.size, 1, none⟩ (.int .i64 (numN t))).setCell ⟨w0.heap.size, 2, none⟩ (.int .i64 (k1))).setCell ⟨w0.heap.size, 3, none⟩ (.int .i64 (k2))).setCell ⟨w0.heap.size, 4, none⟩ (.int .i64 (a1))).setCell ⟨w0.heap.size, 5, none⟩ (.int .i64 (a2))).setCell ⟨w0.heap.size, 6, none⟩ (.int .i64 (b1))).setCell ⟨w0.heap.size, 7, none⟩ (.int .i64 (b2))).cell? ⟨w0.heap.size, 2, none⟩ = some (.int .i64 (k1)) := by go_simp
    have c3 : ((((((((w1.setCell ⟨w0.heap.size, 0, none⟩ (.int .i64 (numK t))).setCell ⟨w0.heap.size, 1, none⟩ (.int .i64 (numN t))).setCell ⟨w0.heap.size, 2, none⟩ (.int .i64 (k1))).setCell ⟨w0.heap.size, 3, none⟩ (.int .i64 (k2))).setCell ⟨w0.heap.size, 4, none⟩ (.int .i64 (a1))).setCell ⟨w0.heap.size, 5, none⟩ (.int .i64 (a2))).setCell ⟨w0.heap.size, 6, none⟩ (.int .i64 (b1))).setCell ⟨w0.heap.size, 7, none⟩ (.int .i64 (b2))).cell? ⟨w0.heap.size, 3, none⟩ = some (.int .i64 (k2)) := by go_simp
    have c4 : ((((((((w1.setCell ⟨w0.heap.size, 0, none⟩ (.int .i64 (numK t))).setCell ⟨w0.heap.size, 1, none⟩ (.int .i64 (numN t))).setCell ⟨w0.heap.size, 2, none⟩ (.int .i64 (k1))).setCell ⟨w0.heap.size, 3, none⟩ (.int .i64 (k2))).setCell ⟨w0.heap.size, 4, none⟩ (.int .i64 (a1))).setCell ⟨w0.heap.size, 5, none⟩ (.int .i64 (a2))).setCell ⟨w0.heap.size, 6, none⟩ (.int .i64 (b1))).setCell ⟨w0.heap.size, 7, none⟩ (.int .i64 (b2))).cell? ⟨w0.heap.size, 4, none⟩ = some (.int .i64 (a1)) := by go_simp
    have c5 : ((((((((w1.setCell ⟨w0.heap.size, 0, none⟩ (.int .i64 (numK t))).setCell ⟨w0.heap.size, 1, none⟩ (.int .i64 (numN t))).setCell ⟨w0.heap.size, 2, none⟩ (.int .i64 (k1))).setCell ⟨w0.heap.size, 3, none⟩ (.int .i64 (k2))).setCell ⟨w0.heap.size, 4, none⟩ (.int .i64 (a1))).setCell ⟨w0.heap.size, 5, none⟩ (.int .i64 (a2))).setCell ⟨w0.heap.size, 6, none⟩ (.int .i64 (b1))).setCell ⟨w0.heap.size, 7, none⟩ (.int .i64 (b2))).cell? ⟨w0.heap.size, 5, none⟩ = some (.int .i64 (a2)) := by go_simp
    have c6 : ((((((((w1.setCell ⟨w0.heap.size, 0, none⟩ (.int .i64 (numK t))).setCell ⟨w0.heap.size, 1, none⟩ (.int .i64 (numN t))).setCell ⟨w0.heap.size, 2, none⟩ (.int .i64 (k1))).setCell ⟨w0.heap.size, 3, none⟩ (.int .i64 (k2))).setCell ⟨w0.heap.size, 4, none⟩ (.int .i64 (a1))).setCell ⟨w0.heap.size, 5, none⟩ (.int .i64 (a2))).setCell ⟨w0.heap.size, 6, none⟩ (.int .i64 (b1))).setCell ⟨w0.heap.size, 7, none⟩ (.int .i64 (b2))).cell? ⟨w0.heap.size, 6, none⟩ = some (.int .i64 (b1)) := by go_simp
    have c7 : ((((((((w1.setCell ⟨w0.heap.size, 0, none⟩ (.int .i64 (numK t))).setCell ⟨w0.heap.size, 1, none⟩ (.int .i64 (numN t))).setCell ⟨w0.heap.size, 2, none⟩ (.int .i64 (k1))).setCell ⟨w0.heap.size, 3, none⟩ (.int .i64 (k2))).setCell ⟨w0.heap.size, 4, none⟩ (.int .i64 (a1))).setCell ⟨w0.heap.size, 5, none⟩ (.int .i64 (a2))).setCell ⟨w0.heap.size, 6, none⟩ (.int .i64 (b1))).setCell ⟨w0.heap.size, 7, none⟩ (.int .i64 (b2))).cell? ⟨w0.heap.size, 7, none⟩ = some (.int .i64 (b2)) := by go_simp
    have hgl : w0.heap.size < ((((((((w1.setCell ⟨w0.heap.size, 0, none⟩ (.int .i64 (numK t))).setCell ⟨w0.heap.size, 1, none⟩ (.int .i64 (numN t))).setCell ⟨w0.heap.size, 2, none⟩ (.int .i64 (k1))).setCell ⟨w0.heap.size, 3, none⟩ (.int .i64 (k2))).setCell ⟨w0.heap.size, 4, none⟩ (.int .i64 (a1))).setCell ⟨w0.heap.size, 5, none⟩ (.int .i64 (a2))).setCell ⟨w0.heap.size, 6, none⟩ (.int .i64 (b1))).setCell ⟨w0.heap.size, 7, none⟩ (.int .i64 (b2))).heap.size := by simpa using hgl0
    clear hc hf
    generalize ((((((((w1.setCell ⟨w0.heap.size, 0, none⟩ (.int .i64 (numK t))).setCell ⟨w0.heap.size, 1, none⟩ (.int .i64 (numN t))).setCell ⟨w0.heap.size, 2, none⟩ (.int .i64 (k1))).setCell ⟨w0.heap.size, 3, none⟩ (.int .i64 (k2))).setCell ⟨w0.heap.size, 4, none⟩ (.int .i64 (a1))).setCell ⟨w0.heap.size, 5, none⟩ (.int .i64 (a2))).setCell ⟨w0.heap.size, 6, none⟩ (.int .i64 (b1))).setCell ⟨w0.heap.size, 7, none⟩ (.int .i64 (b2))) = wx at *
    generalize w0.heap.size = gh at *
    clear HB1 HB2 HB0 n0 n1 n2 n3 n4 n5 n6 hgl0 hsz0 w1 w0
  all_goals
    have hx2 : w.heap.size + 2 ≤ wx.heap.size := by
      have := HBx.out.size
      simp only [World.size_alloc] at this
      omega
    have HR := hidE (rowG_below (rowG_below HR.out H2.out) HBx.out)
    go_wp2_with (at_make; go_must (refine wpList_make_own _ rfl _ _ 61 rfl wx.heap.size 26 i0 (.agg #[.int .i64 0, .int .i64 0]) 2 Tryz.underlying61 hi0 hz0 hz1 .i64 .i64 _ l.length rfl rfl rfl (by rw [hz2]; omega) (by show _ ≤ 2 ^ 63 - 1; omega) (Nat.le_refl _) ?_))
    intro w3 ho3 hg3
    have HB3 : Hid (Below wx.heap.size wx w3) := (Below.refl _ _).grown hg3 (Nat.le_refl _) (fun k hk => by cases hk)
    have HO3 := hidE ho3
    clear ho3 hg3
    go_wp2_with fail
    go_loopw [6, 24] (fun v i wr => ∃ (m : Nat) (vs : List V2), m ≤ l.length ∧ vs.length = m ∧ i = .int .i64 m ∧ Hid (wr.ownsRow wx.heap.size 26 2 v vs.length (rowV vs)) ∧ Hid (Below wx.heap.size wx wr) ∧ Hid (∀ p ∈ vs, okV p) ∧ Hid (evF opV (evE t k1 k2 a1 a2 b1 b2) (l.drop m) vs = T)) (fun _ i _ => l.length - (intOf i).toNat)
    case atStart => exact ⟨0, [], Nat.zero_le _, rfl, rfl, HO3, HB3, fun p hp => absurd hp (by simp), HF⟩
    case round =>
      clear HF HB3 HO3
      obtain ⟨m, vs, hm, rfl, rfl, HO, HB, HV, HS⟩ := hrel
      obtain ⟨ao2, cap2, rfl⟩ := owns_shapeE HO.out
      by_cases hlt : vs.length < l.length
      · obtain ⟨g, off, rfl, hnode, l1, l2, l3⟩ := rowN_node HR.out _ hlt
        have hS := HS.out
        rw [List.drop_eq_getElem_cons hlt] at hS
        have hon := HOK.out _ (List.getElem_mem hlt)
        generalize l[vs.length] = nd at *
        obtain ⟨n0, n1, n2, n3, n4, n5⟩ := nodeAt_below hnode HB.out l3
        clear hnode
        unfold maxLen at l2
        simp only [evF] at hS
        have HN := hidE (evalNode_any nd (numK t) (numN t) k1 k2 a1 a2 b1 b2 vs (.slice ao2 vs.length cap2) (wr.alloc (.cells #[.int .i64 nd.op, .int .i64 nd.x, .int .i64 nd.y, .int .i64 nd.n, .int .i64 nd.k, .int .i64 nd.v] 29)) (by omega) (rowG_of_owns (HO.out.alloc _)) HV.out)
        have hp := ok_evN (n := nd) (vs := vs) HEV.out hon
        have HP := hidE hp
        have HS := hidE hS
        clear hp hS hon
        have he : evN opV [(numK t, numN t), (k1, k2), (a1, a2), (b1, b2)] nd vs = evN opV (evE t k1 k2 a1 a2 b1 b2) nd vs := rfl
        rw [he] at HN
        clear he
        generalize evN opV (evE t k1 k2 a1 a2 b1 b2) nd vs = p at *
        obtain ⟨p1, p2⟩ := p
        unfold aggN aggH aggV at HN
        simp only at HN
        obtain ⟨hc, hf⟩ := rules HB
        obtain ⟨hc2, hf2⟩ := rules (nxta HB (.cells #[.int .i64 nd.op, .int .i64 nd.x, .int .i64 nd.y, .int .i64 nd.n, .int .i64 nd.k, .int .i64 nd.v] 29))
        go_wp2_with fail
        refine HN.out.mono ?_
        rintro e w4 ⟨rfl, hb⟩
        have HB4 := nxt (nxta HB (.cells #[.int .i64 nd.op, .int .i64 nd.x, .int .i64 nd.y, .int .i64 nd.n, .int .i64 nd.k, .int .i64 nd.v] 29)) hb
        have HO4 := hidE (own_keep (HO.out.alloc _) hb (Nat.le_refl _))
        clear hb hc hf hc2 hf2 HN
        go_wp2_with (at_builtin; go_must (refine wpList_append_own _ rfl (.tmp 28) (.tmp 33) 61 rfl wx.heap.size 26 i0 (.agg #[.int .i64 0, .int .i64 0]) 2 16 Tryz.underlying61 hi0 hz0 hz1 hz2 rfl (by decide) _ _ _ rfl (HO4.out.alloc _) ⟨w4.heap.size, 0, none⟩ 1 1 [.int .i64 p1, .int .i64 p2] rfl rfl (cell_two_newE _ _ _ _) (by intro u hu; simp at hu; rcases hu with rfl | rfl <;> rfl) (by show _ ≤ 2 ^ 63 - 1; omega) (by omega) (by have := HB4.out.size; simp; omega) ?_))
        intro v' w5 ho5 hg5 _
        have ho6 : w5.ownsRow wx.heap.size 26 2 v' (vs ++ [(p1, p2)]).length (rowV (vs ++ [(p1, p2)])) := by
          have e1 : rowV [(p1, p2)] = [.int .i64 p1, .int .i64 p2] := rfl
          rw [rowV_app, e1, List.length_append]
          exact ho5
        have HO5 := hidE ho6
        have HB5 : Hid (Below wx.heap.size wx w5) := (HB4.out.alloc HB4.out.size _).grown hg5 (by have := HB4.out.size; simp; omega) (fun k hk => (HO4.out.lt k hk).1)
        clear ho5 hg5 ho6
        go_wp2_with fail
        go_roundw
        case rel => exact ⟨vs.length + 1, vs ++ [(p1, p2)], by omega, by simp, by go_num, HO5, HB5, fun q hq => by
          simp only [List.mem_append, List.mem_cons, List.not_mem_nil, or_false] at hq
          rcases hq with hq | rfl
          · exact HV.out q hq
          · exact HP.out, HS⟩
        case measure => simp [intOf]; omega
      · have hml : vs.length = l.length := by omega
        have hS := HS.out
        rw [List.drop_eq_nil_of_le (by omega)] at hS
        simp only [evF] at hS
        subst hS
        have HN := hidE (valueAt_any vs (.slice ao2 vs.length cap2) ((l.length : Int) - 1) wr (by omega) (rowG_of_owns HO.out))
        have HB := hidE (HBx.out.trans (HB.out.mono HBx.out.size))
        generalize hq : nth vs ((l.length : Int) - 1) = q at *
        have HQ := hidE hq
        clear hq
        obtain ⟨q1, q2⟩ := q
        unfold aggV at HN
        simp only at HN
        have hge : ¬ ((vs.length : Int) < (l.length : Int)) := by omega
        clear HS HV HO hml hlt hm
        have ww : IntKind.i64.wrap ((l.length : Int) - 1) = (l.length : Int) - 1 := by unfold IntKind.wrap; simp [IntKind.bits, IntKind.signed]; omega
        go_wp2_with fail
        refine HN.out.mono ?_
        rintro e w6 ⟨rfl, hb⟩
        have HB6 := nxt HB hb
        clear hb
        obtain ⟨hc, hf⟩ := rules HB6
        go_wp2_with fail
        exact bodyPost_ret (v := .agg #[.int .i64 q1, .int .i64 q2]) (by simp [results, Tryz.results63, go_sem, hc, hf]) rfl ⟨by rw [HQ.out]; rfl, ended HB6 H2.out _ _⟩
end Go.Proofs.YtaomljdbndajgaaGreatDoor

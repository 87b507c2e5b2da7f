/- The contracts of the document's SameValues and SamePane at two that are alike, over this seat's translation. Conditions: as named. -/
import Derived.Test.YtoihjhhambgpfabPaneA
namespace Go.Proofs.Ytoihjhhambgpfab
open Go.ChangeShapes Go.WideShapes Go.ChangeAt Go.RowKit
set_option linter.unusedVariables false
set_option linter.unusedSimpArgs false

theorem neq_val (a b : Int) (w : World) : (binOp .neq 59 (.agg #[.int .i64 a, .int .i64 b]) (.agg #[.int .i64 a, .int .i64 b])).run Try.prog w = .ok (.bool false) w := by
  have h1 : (a == a) = true := by simp
  have h2 : (b == b) = true := by simp
  go_simp
theorem eql_val (a b : Int) (w : World) : (binOp .eql 59 (.agg #[.int .i64 a, .int .i64 b]) (.agg #[.int .i64 a, .int .i64 b])).run Try.prog w = .ok (.bool true) w := by
  have h1 : (a == a) = true := by simp
  have h2 : (b == b) = true := by simp
  go_simp

set_option maxRecDepth 100000 in
set_option maxHeartbeats 1000000 in
theorem sameVals_any (l : List V2) (u v : Value) (w : World) (hl : l.length ≤ 1000) (hu : RowG w u 2 l.length (rowV l)) (hv : RowG w v 2 l.length (rowV l)) :
    Calls Try.prog 63 #[u, v] w fun e w' => e = .returned (.bool true) ∧ Below w.heap.size w w' := by
  obtain ⟨au, cu, rfl⟩ := rowG_shape hu
  obtain ⟨av, cv, rfl⟩ := rowG_shape hv
  have HU := hidE hu
  have HV := hidE hv
  have kn := kin_some w
  obtain ⟨kc, kf⟩ := kin_rules w
  have nq := neq_val
  have bne : ((l.length : Int) != (l.length : Int)) = false := by simp
  clear hu hv
  go_enter Try.func63, Try.ntmps63
  go_wp2_with fail
  go_loopw [5] (fun i wr => ∃ m : Nat, m ≤ l.length ∧ i = .int .i64 m ∧ Hid (Below w.heap.size w wr)) (fun i _ => l.length - (intOf i).toNat)
  case atStart => exact ⟨0, Nat.zero_le _, rfl, Below.refl _ _⟩
  case round =>
    obtain ⟨m, hm, rfl, HW⟩ := hrel
    by_cases hlt : m < l.length
    · obtain ⟨g1, o1, rfl, e0, e1, p1, p2, p3⟩ := rowV_val HU.out m hlt
      obtain ⟨g2, o2, rfl, f0, f1, q1, q2, q3⟩ := rowV_val HV.out m hlt
      generalize l[m] = x at *
      obtain ⟨x1, x2⟩ := x
      simp only at e0 e1 f0 f1
      unfold maxLen at p2 q2
      go_wp2_with fail
      refine wp_region_kin HW (by kernel_rfl) (by kernel_rfl) ?_
      repeat (go_big_quiet_step (fail))
      refine wpQuiet_nil ?_
      rintro _ ⟨pk, rfl⟩
      have HP := hidE pk.h
      generalize pk.w = wp at *
      clear HW
      go_wp2_with fail
      go_roundw
      case rel => exact ⟨m + 1, by omega, by go_num, HP⟩
      case measure => simp [intOf]; omega
    · have hml : m = l.length := by omega
      subst hml
      go_wp2_with fail
      go_ret
      exact ⟨rfl, HW.out⟩

set_option maxRecDepth 100000 in
set_option maxHeartbeats 1000000 in
theorem samePane_any (st k n : Int) (l : List V2) (u v : Value) (w : World) (hl : l.length ≤ 1000) (hu : RowG w u 2 l.length (rowV l)) (hv : RowG w v 2 l.length (rowV l)) :
    Calls Try.prog 40 #[.agg #[.int .i64 st, .int .i64 k, .int .i64 n, u], .agg #[.int .i64 st, .int .i64 k, .int .i64 n, v]] w fun e w' => e = .returned (.bool true) ∧ Below w.heap.size w w' := by
  obtain ⟨au, cu, rfl⟩ := rowG_shape hu
  obtain ⟨av, cv, rfl⟩ := rowG_shape hv
  have b1 := (Below.refl w.heap.size w).alloc (Nat.le_refl _) (.cells #[.int .i64 st, .int .i64 k, .int .i64 n, .slice au l.length cu] 99)
  have b2 := b1.alloc b1.size (.cells #[.int .i64 st, .int .i64 k, .int .i64 n, .slice av l.length cv] 99)
  have SV := hidE (sameVals_any l _ _ _ hl (rowG_below hu b2) (rowG_below hv b2))
  have A0 := blk_below (blk_alloc w [.int .i64 st, .int .i64 k, .int .i64 n, .slice au l.length cu] 99 (by simp)) ((Below.refl _ _).alloc (Nat.le_refl _) (.cells #[.int .i64 st, .int .i64 k, .int .i64 n, .slice av l.length cv] 99)) (by simp)
  have A1 := blk_alloc (w.alloc (.cells #[.int .i64 st, .int .i64 k, .int .i64 n, .slice au l.length cu] 99)) [.int .i64 st, .int .i64 k, .int .i64 n, .slice av l.length cv] 99 (by simp)
  rw [show (w.alloc (.cells #[.int .i64 st, .int .i64 k, .int .i64 n, .slice au l.length cu] 99)).heap.size = w.heap.size + 1 from by simp] at A1
  have B0 := hidE A0
  have B1 := hidE A1
  have HA := hidE b2
  have eq1 := eql_val
  have bs : (st == st) = true := by simp
  clear b1 b2 A0 A1 hu hv
  go_enter Try.func40, Try.ntmps40
  go_wp2_with fail
  refine SV.out.mono ?_
  rintro e w1 ⟨rfl, hb⟩
  have C0 := blk_below B0.out hb B0.out.lt
  have C1 := blk_below B1.out hb B1.out.lt
  have d0 : w1.cell? ⟨w.heap.size, 0, none⟩ = some (.int .i64 st) := C0.c 0 (by simp)
  have d1 : w1.cell? ⟨w.heap.size, 1, none⟩ = some (.int .i64 k) := C0.c 1 (by simp)
  have d2 : w1.cell? ⟨w.heap.size, 2, none⟩ = some (.int .i64 n) := C0.c 2 (by simp)
  have f0 : w1.cell? ⟨w.heap.size + 1, 0, none⟩ = some (.int .i64 st) := C1.c 0 (by simp)
  have f1 : w1.cell? ⟨w.heap.size + 1, 1, none⟩ = some (.int .i64 k) := C1.c 1 (by simp)
  have f2 : w1.cell? ⟨w.heap.size + 1, 2, none⟩ = some (.int .i64 n) := C1.c 2 (by simp)
  have HB := nxt HA hb
  clear hb C0 C1 B0 B1 SV HA
  go_wp2_with fail
  go_ret
  exact ⟨rfl, HB.out⟩
end Go.Proofs.Ytoihjhhambgpfab

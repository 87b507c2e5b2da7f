/- The law DiskSays's walk, over this seat's translation. Conditions: as named. -/
import Derived.Test.YtjiopjdbifcfkacDSL4
namespace Go.Proofs.Ytjiopjdbifcfkac
open Go.ChangeShapes Go.WideShapes Go.ChangeAt Go.RowKit
set_option linter.unusedVariables false
set_option linter.unusedSimpArgs false

set_option maxRecDepth 100000 in
set_option maxHeartbeats 8000000 in
theorem diskSays_walk (z : Int) (l : List Act1) (lv : Value) (W : World) (hr : RowG W lv 4 l.length (rowOf cellsAct l)) (hl : l.length ≤ maxLen) (hs : ∀ x ∈ l, x.s.size ≤ maxLen) (hz : ∀ x ∈ l, (0 ≤ x.k ∧ x.k ≤ 18446744073709551615) ∧ x.a ≤ 9223372036854775807) :
    Calls Try.prog 3 #[.int .i64 z, lv] W fun e w' => e = .returned (.bool true) ∧ Below W.heap.size W w' := by
  obtain ⟨ao, cap, rfl⟩ := rowG_shape hr
  go_enter Try.func3, Try.ntmps3
  have HR : ∀ (t : List Value) w', t[4]? = some (.bool true) → Below W.heap.size W w' → bodyPost Try.prog Try.f3 (fun e w' => e = .returned (.bool true) ∧ Below W.heap.size W w') .ret { tmps := t.toArray, defers := [] } w' := fun t w' h4 hb => by
    refine bodyPost_ret (results_tmp rfl _ _ _) rfl ?_
    refine ⟨?_, hb⟩
    have h9 : t.toArray.getD 4 undef = .bool true := by simp [h4]
    rw [h9]
  have HPN : ∀ c a a' w1, bodyPost Try.prog Try.f3 (fun e w' => e = .returned (.bool true) ∧ Below W.heap.size W w') (.panic c) a w1 → bodyPost Try.prog Try.f3 (fun e w' => e = .returned (.bool true) ∧ Below W.heap.size W w') (.panic c) a' w1 := fun c a a' w1 h => by
    have h2 := h.2.1
    cases h2
  refine seg0 _ _ _ _ (by kernel_rfl) _ (by kernel_rfl) _ (by kernel_rfl) _ (by kernel_rfl) _ (by kernel_rfl) _ (by kernel_rfl) _ (by kernel_rfl) _ (by kernel_rfl) _ (by kernel_rfl) _ (by kernel_rfl) _ (by kernel_rfl) _ z l cap ao W rfl rfl rfl hr hl hs HR ?_
  rintro t1 n gd gs Br gr G0 w1 ht1 a0 a1 a6 a8 a10 ⟨rfl, hn0, hn, c1, c2, hd⟩
  refine loopD1 _ _ (by kernel_rfl) t1 n l cap gd gs Br gr ao G0 W w1 ht1 a0 a1 a6 a8 a10 hn hn0 c1 c2 hz hr hd (fun c a a' w h => HPN c a a' w h) ?_
  rintro t2 w2 ht2 b0 b1 b6 b8 ⟨G, hd2⟩
  refine then_normal (wp_seq (seg31 _ _ _ (by kernel_rfl) t2 n l cap gd gs Br gr ao ht2 b0 b1 b6 b8 w2 ?_))
  intro t3 ht3 c0 c1' c6 c8 c17
  refine loopD2 _ _ (by kernel_rfl) t3 n l cap gd gs Br gr ao _ G W w2 ht3 c0 c1' c6 c8 c17 hn hd2 ?_
  intro t4 w4 ht4 hb
  exact then_normal (seg38 _ _ (by kernel_rfl) t4 ht4 w4 (fun t h4 => HR t w4 h4 hb))
end Go.Proofs.Ytjiopjdbifcfkac

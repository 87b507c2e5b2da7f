/- The contract of the law's ahead, over this seat's translation. Conditions: as named. -/
import Derived.Test.YtoihjhhambgpfabPane9
namespace Go.Proofs.Ytoihjhhambgpfab
open Go.ChangeShapes Go.WideShapes Go.ChangeAt Go.RowKit
set_option linter.unusedVariables false
set_option linter.unusedSimpArgs false

set_option maxRecDepth 100000 in
set_option maxHeartbeats 1000000 in
theorem ahead_any (a b : Pn) (w : World) (ha : ∃ ao n cap, a.av = .slice ao n cap) (hb : ∃ ao n cap, b.av = .slice ao n cap) (h : lexlt a.st a.k a.n b.st b.k b.n) :
    Calls Try.prog 44 #[aggP a, aggP b] w fun e w' => e = .returned (.bool true) ∧ Below w.heap.size w w' := by
  obtain ⟨s1, k1, n1, t1, ac1, av1⟩ := a
  obtain ⟨s2, k2, n2, t2, ac2, av2⟩ := b
  obtain ⟨o1, m1, c1, e1⟩ := ha
  obtain ⟨o2, m2, c2, e2⟩ := hb
  simp only at e1 e2 h
  subst e1 e2
  unfold aggP
  simp only
  have b1 := (Below.refl w.heap.size w).alloc (Nat.le_refl _) (.cells #[.int .i64 s1, .int .i64 k1, .int .i64 n1, .slice o1 m1 c1, .bool t1] 94)
  have HA := hidE (b1.alloc b1.size (.cells #[.int .i64 s2, .int .i64 k2, .int .i64 n2, .slice o2 m2 c2, .bool t2] 94))
  clear b1
  by_cases hs : s1 = s2
  · subst hs
    have hv : Hid (vcmp k1 n1 k2 n2 < 0) := by
      show _ < _
      unfold vcmp cmpI
      unfold lexlt at h
      repeat' split
      all_goals omega
    have hb : (s1 != s1) = false := by simp
    clear h
    go_enter Try.func44, Try.ntmps44
    go_wp2_with fail
    refine (compare_any _ _ _ _ _).mono ?_
    rintro e w1 ⟨rfl, hb1⟩
    have HB := nxt HA hb1
    have dv : decide (vcmp k1 n1 k2 n2 < 0) = true := by simpa using hv.out
    clear hb1 HA hv
    generalize vcmp k1 n1 k2 n2 = x at *
    go_wp2_with fail
    go_ret
    exact ⟨rfl, HB.out⟩
  · have hb : (s1 != s2) = true := by simp [hs]
    have dv : decide (s1 < s2) = true := by
      unfold lexlt at h
      simp
      omega
    clear h
    go_enter Try.func44, Try.ntmps44
    go_wp2_with fail
    go_ret
    exact ⟨rfl, HA.out⟩
end Go.Proofs.Ytoihjhhambgpfab

/- The contract of penstockref.SameNumbers, over this seat's translation: are two lists of numbers the same? Conditions: the slices are rows of numbers. -/
import Derived.Test.YtepfpmagppckeabRows
import Derived.Test.YtepfpmagppckeabKin
import Derived.ProofKit
import Derived.OpenShut
import Derived.OwnWalk
import Derived.Outline
namespace Go.Proofs.Ytepfpmagppckeab
open Go.RowKit
set_option linter.unusedVariables false
set_option linter.unusedSimpArgs false

/-- a slice that holds these numbers -/
def RowI (w : World) (v : Value) (xs : List Int) : Prop :=
  (v = .slice none 0 0 ∧ xs = []) ∨ ∃ g off cap, v = .slice (some ⟨g, off, none⟩) xs.length cap ∧ xs.length ≤ cap ∧ cap ≤ maxLen ∧ g < w.heap.size ∧ ∀ i, i < xs.length → w.cell? ⟨g, off + i, none⟩ = some (.int .i64 (xs.getD i 0))

theorem nums_eq (xs ys : List Int) (h : xs.length = ys.length) (hk : ∀ j, j < xs.length → xs.getD j 0 = ys.getD j 0) : xs = ys := by
  apply List.ext_getElem h
  intro i h1 h2
  have := hk i h1
  simpa [List.getD, h1, h2] using this

theorem nums_nil (w : World) (v u : Value) (xs ys : List Int) (hx : RowI w v xs) (hy : RowI w u ys) (hne : xs.length ≠ ys.length) :
    Calls Try.prog 12 #[v, u] w fun e w' => e = .returned (.bool false) ∧ Below w.heap.size w w' := by
  have hb : ((xs.length : Int) != (ys.length : Int)) = true := by rw [bne_iff_ne]; omega
  rcases hx with ⟨rfl, rfl⟩ | ⟨g1, o1, c1, rfl, -, -, -, -⟩ <;> rcases hy with ⟨rfl, rfl⟩ | ⟨g2, o2, c2, rfl, -, -, -, -⟩
  · exact absurd rfl hne
  all_goals
    try simp only [List.length_nil, Int.ofNat_zero] at hb
    clear hne
    go_enter Try.func12, Try.ntmps12
    go_wp2
    go_ret
    exact ⟨rfl, Below.refl _ _⟩

theorem nums_any (w : World) (v u : Value) (xs ys : List Int) (hx : RowI w v xs) (hy : RowI w u ys) (he : xs.length = ys.length) :
    Calls Try.prog 12 #[v, u] w fun e w' => e = .returned (.bool (decide (xs = ys))) ∧ Below w.heap.size w w' := by
  by_cases h0 : xs.length = 0
  · obtain rfl : xs = [] := List.eq_nil_of_length_eq_zero h0
    obtain rfl : ys = [] := List.eq_nil_of_length_eq_zero (by simpa using he.symm)
    rcases hx with ⟨rfl, -⟩ | ⟨g1, o1, c1, rfl, -, -, -, -⟩ <;> rcases hy with ⟨rfl, -⟩ | ⟨g2, o2, c2, rfl, -, -, -, -⟩
    all_goals
      clear he h0
      go_enter Try.func12, Try.ntmps12
      go_wp2_with fail
      go_loop [5] (fun i => i = .int .i64 0) (fun _ => 0)
      case atStart => rfl
      case round =>
        subst hrel
        go_wp2
        go_ret
        exact ⟨by simp, Below.refl _ _⟩
  · rcases hx with ⟨rfl, rfl⟩ | ⟨g1, o1, c1, rfl, l1, m1, z1, hx⟩
    · simp at h0
    rcases hy with ⟨rfl, rfl⟩ | ⟨g2, o2, c2, rfl, l2, m2, z2, hy⟩
    · simp at he h0; exact absurd he h0
    have kn := kin_some w
    obtain ⟨kc, kf⟩ := kin_rules w
    unfold maxLen at m1 m2
    have hb : ((xs.length : Int) != (ys.length : Int)) = false := by simp; omega
    have HE : Hid (xs.length = ys.length) := he
    have hle : ys.length ≤ xs.length := by omega
    have hle2 : xs.length ≤ ys.length := by omega
    generalize hr : decide (xs = ys) = r
    have HR : Hid (decide (xs = ys) = r) := hr
    clear he h0 hr
    have HX : Hid (∀ i, i < xs.length → w.cell? ⟨g1, o1 + i, none⟩ = some (.int .i64 (xs.getD i 0))) := hx
    have HY : Hid (∀ i, i < ys.length → w.cell? ⟨g2, o2 + i, none⟩ = some (.int .i64 (ys.getD i 0))) := hy
    clear hx hy
    go_enter Try.func12, Try.ntmps12
    go_wp2_with fail
    go_loopw [5] (fun i wr => ∃ k : Nat, k ≤ xs.length ∧ i = .int .i64 k ∧ Hid (Below w.heap.size w wr) ∧ Hid (∀ j, j < k → xs.getD j 0 = ys.getD j 0)) (fun i _ => xs.length - (intOf i).toNat)
    case atStart => exact ⟨0, Nat.zero_le _, rfl, Below.refl _ _, fun j hj => absurd hj (by omega)⟩
    case round =>
      obtain ⟨k, hk, rfl, HB, HA⟩ := hrel
      by_cases hlt : k < xs.length
      · have cx := HX.out k hlt
        have cy := HY.out k (by have := HE.out; omega)
        have hlt2 : k < ys.length := by have := HE.out; omega
        generalize hxk : xs.getD k 0 = x at cx
        generalize hyk : ys.getD k 0 = y at cy
        have HK : Hid (xs.getD k 0 = x ∧ ys.getD k 0 = y) := ⟨hxk, hyk⟩
        clear hxk hyk
        by_cases hxy : x = y
        · have hq : (x != y) = false := by simp [hxy]
          have HQ : Hid (x = y) := hxy
          clear hxy
          go_wp2_with fail
          refine wp_region_kin HB (by kernel_rfl) (by kernel_rfl) ?_
          repeat (go_big_quiet_step (fail))
          refine wpQuiet_nil ?_
          rintro _ ⟨p, rfl⟩
          go_wp2_with fail
          go_roundw
          case rel => exact ⟨k + 1, by omega, by go_num, p.h, fun j hj => by
            by_cases hjk : j = k
            · subst hjk; rw [HK.out.1, HK.out.2, HQ.out]
            · exact HA.out j (by omega)⟩
          case measure => simp [intOf]; omega
        · have hq : (x != y) = true := by simp [hxy]
          have HQ : Hid (¬ x = y) := hxy
          clear hxy
          go_wp2_with fail
          refine wp_region_kin HB (by kernel_rfl) (by kernel_rfl) ?_
          repeat (go_big_quiet_step (fail))
          refine wpQuiet_nil ?_
          rintro _ ⟨p, rfl⟩
          go_wp2_with fail
          go_ret
          exact ⟨ret_bool (by rw [← HR.out]; exact (decide_eq_false (fun e => HQ.out (by rw [← HK.out.1, ← HK.out.2, e]))).symm), p.h⟩
      · have hkn : k = xs.length := by omega
        go_wp2_with fail
        go_ret
        exact ⟨ret_bool (by rw [← HR.out]; exact (decide_eq_true (nums_eq xs ys HE.out (fun j hj => HA.out j (by omega)))).symm), HB.out⟩

end Go.Proofs.Ytepfpmagppckeab

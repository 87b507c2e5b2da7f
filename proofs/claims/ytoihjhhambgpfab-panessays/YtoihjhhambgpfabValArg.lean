/- What a list of values that is handed in is: values in a row of cells. Conditions: none. -/
import Derived.Test.YtoihjhhambgpfabFrame3
import Derived.Test.YtoihjhhambgpfabValsG
import Derived.Deep.Slices
namespace Go.Proofs.Ytoihjhhambgpfab
open Go.ChangeShapes Go.WideShapes Go.ChangeAt Go.RowKit Go.Joins Go.Deep
set_option linter.unusedVariables false

theorem one_int {H : Type} {enc : TypeId × Value → H} {W : World} {sp : Nat → Bool} {hd : Bool} {fuel : Nat} {c : Value} {x : DataW H × List MemPlace}
    (h : DataW.trod enc Try.prog W 0 sp hd fuel 3 [c] = some x) : ∃ n : Int, c = .int .i64 n := by
  obtain ⟨a, e, -, -⟩ := DataW.trod_int Try.underlying3 h
  simp at e
  exact ⟨a, e⟩
set_option maxRecDepth 100000 in
theorem two_pval {H : Type} {enc : TypeId × Value → H} {W : World} {sp : Nat → Bool} {hd : Bool} {fuel : Nat} {c d : Value} {x : DataW H × List MemPlace}
    (h : DataW.trod enc Try.prog W 0 sp hd fuel 59 [c, d] = some x) : ∃ m n : Int, c = .int .i64 m ∧ d = .int .i64 n := by
  obtain ⟨y0, y1, n, -, -, h0, h1⟩ := trod_struct2 Try.underlying59 h
  rw [cellsInt] at h0 h1
  obtain ⟨a, ea⟩ := one_int h0
  obtain ⟨b, eb⟩ := one_int h1
  exact ⟨a, b, ea, eb⟩

theorem list2 {α : Type} {cs : List α} (h : cs.length = 2) : ∃ a b, cs = [a, b] := by
  match cs, h with
  | [a, b], _ => exact ⟨a, b, rfl⟩
set_option maxRecDepth 100000 in
theorem open_pval {H : Type} {enc : TypeId × Value → H} {W : World} {sp : Nat → Bool} {hd : Bool} {fuel : Nat} {cs : List Value} {x : DataW H × List MemPlace}
    (h : DataW.trod enc Try.prog W 0 sp hd fuel 59 cs = some x) : ∃ n : V2, cs = cellsV n := by
  obtain ⟨xs, k, -, -, hlen, hxl, hf⟩ := DataW.trod_struct Try.underlying59 h
  rw [cellsValue] at hlen
  obtain ⟨c, d, rfl⟩ := list2 hlen
  obtain ⟨m, n, e1, e2⟩ := two_pval h
  exact ⟨(m, n), by rw [e1, e2]; rfl⟩

set_option maxRecDepth 100000 in
/-- a list of pairs -/
theorem open_pvals {H : Type} {enc : TypeId × Value → H} {W : World} {base : Nat} {v : Value} {d : DataW H} {p : List MemPlace}
    (hv : Value.okWide Try.prog W .any base 53 v) (h : DataW.Trod enc Try.prog W 0 (fun _ => true) true 53 v d p) :
    ∃ l : List V2, RowG W v 2 l.length (rowV l) ∧ l.length ≤ maxLen := by
  obtain ⟨ao, ln, cp, rfl⟩ := okWide_slice Try.underlying53 hv
  obtain ⟨fuel, hf⟩ := h
  rcases open_slice Try.underlying53 hf with ⟨hc, -⟩ | ⟨a, len, cap, m, n, D, Pl, hc, -, hl, hm, hmm, -, hx⟩
  · simp only [Value.cells, List.cons.injEq, Value.slice.injEq, and_true] at hc
    obtain ⟨rfl, rfl, rfl⟩ := hc
    exact ⟨[], ⟨rfl, .inl ⟨⟨_, _, rfl⟩, rfl⟩⟩, Nat.zero_le _⟩
  · simp only [Value.cells, List.cons.injEq, Value.slice.injEq, and_true] at hc
    obtain ⟨rfl, rfl, rfl⟩ := hc
    simp only [if_true] at hmm
    subst hmm
    rw [cellsValue] at hx
    have each : ∀ i, i < ln → ∃ nd : V2, ∀ j, j < 2 → W.cell? (a.add (i * 2 + j)) = (cellsV nd)[j]? := by
      intro i hi
      obtain ⟨cs', h1, h2⟩ := hx i (by omega)
      obtain ⟨nd, rfl⟩ := open_pval h2
      obtain ⟨-, hlen, hcell⟩ := World.cells?_some h1
      refine ⟨nd, fun j hj => ?_⟩
      have := hcell j hj
      rw [← this, add_add]
    by_cases h0 : ln = 0
    · subst h0
      exact ⟨[], ⟨rfl, .inl ⟨⟨_, _, rfl⟩, rfl⟩⟩, Nat.zero_le _⟩
    · obtain ⟨g, off, spot⟩ := a
      have hspot : spot = none := by
        obtain ⟨nd, hnd⟩ := each 0 (by omega)
        have h9 := hnd 0 (by omega)
        exact (by simpa [Addr.add] using World.cell?_spot (h9.trans rfl))
      subst hspot
      have each2 : ∀ i, ∃ nd : V2, i < ln → ∀ j, j < 2 → W.cell? ⟨g, off + (i * 2 + j), none⟩ = (cellsV nd)[j]? := by
        intro i
        by_cases hi : i < ln
        · obtain ⟨nd, hnd⟩ := each i hi
          exact ⟨nd, fun _ j hj => by rw [← hnd j hj, add_plain]⟩
        · exact ⟨(0, 0), fun h => absurd h hi⟩
      obtain ⟨F, hF⟩ := Classical.axiomOfChoice each2
      have hg : g < W.heap.size := by
        obtain ⟨cs', h1, -⟩ := hx 0 (by omega)
        have := World.cells?_block h1 (by omega)
        simpa [Addr.add] using this
      have hlen : ((List.range ln).map F).length = ln := by simp
      refine ⟨(List.range ln).map F, ⟨rowV_len _, .inr ⟨g, off, m, by rw [hlen], by rw [hlen]; omega, by omega, hg, fun j hj => ?_⟩⟩, by rw [hlen]; omega⟩
      rw [hlen] at hj
      have hi : j / 2 < ln := by omega
      have h1 := hF (j / 2) hi (j % 2) (by omega)
      rw [show j / 2 * 2 + j % 2 = j from by omega] at h1
      rw [h1, ← rowV_at ((List.range ln).map F) (j / 2) (j % 2) (F (j / 2)) (by simp [hi]) (by omega), show j / 2 * 2 + j % 2 = j from by omega]
end Go.Proofs.Ytoihjhhambgpfab

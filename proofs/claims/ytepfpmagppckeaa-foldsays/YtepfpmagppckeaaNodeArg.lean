/- What a list of nodes and an event that are handed in are: nodes in a row of cells, and seven numbers. Conditions: none. -/
import Derived.Test.YtepfpmagppckeaaFrame
import Derived.Test.YtepfpmagppckeaaExpr4
import Derived.Deep.Slices
namespace Go.Proofs.Ytepfpmagppckeaa
open Go.ChangeShapes Go.WideShapes Go.ChangeAt Go.RowKit Go.Joins Go.Deep
set_option linter.unusedVariables false

theorem cellsNode : Try.prog.cellsOf 50 = 6 := by kernel_rfl
theorem cellsEvent : Try.prog.cellsOf 37 = 7 := by kernel_rfl

theorem one_int {H : Type} {enc : TypeId × Value → H} {W : World} {sp : Nat → Bool} {hd : Bool} {fuel : Nat} {c : Value} {x : DataW H × List MemPlace}
    (h : DataW.trod enc Try.prog W 0 sp hd fuel 3 [c] = some x) : ∃ n : Int, c = .int .i64 n := by
  obtain ⟨a, e, -, -⟩ := DataW.trod_int Try.underlying3 h
  simp at e
  exact ⟨a, e⟩
theorem two_int {H : Type} {enc : TypeId × Value → H} {W : World} {sp : Nat → Bool} {hd : Bool} {fuel : Nat} {c d : Value} {x : DataW H × List MemPlace}
    (h : DataW.trod enc Try.prog W 0 sp hd fuel 35 [c, d] = some x) : ∃ m n : Int, c = .int .i64 m ∧ d = .int .i64 n := by
  obtain ⟨y0, y1, n, -, -, h0, h1⟩ := trod_struct2 Try.underlying35 h
  rw [cellsInt] at h0 h1
  obtain ⟨a, ea⟩ := one_int h0
  obtain ⟨b, eb⟩ := one_int h1
  exact ⟨a, b, ea, eb⟩

theorem list6 {α : Type} {cs : List α} (h : cs.length = 6) : ∃ a b c d e f, cs = [a, b, c, d, e, f] := by
  match cs, h with
  | [a, b, c, d, e, f], _ => exact ⟨a, b, c, d, e, f, rfl⟩
theorem list7 {α : Type} {cs : List α} (h : cs.length = 7) : ∃ a b c d e f g, cs = [a, b, c, d, e, f, g] := by
  match cs, h with
  | [a, b, c, d, e, f, g], _ => exact ⟨a, b, c, d, e, f, g, rfl⟩
theorem list5 {α : Type} {cs : List α} (h : cs.length = 5) : ∃ a b c d e, cs = [a, b, c, d, e] := by
  match cs, h with
  | [a, b, c, d, e], _ => exact ⟨a, b, c, d, e, rfl⟩
theorem list4 {α : Type} {cs : List α} (h : cs.length = 4) : ∃ a b c d, cs = [a, b, c, d] := by
  match cs, h with
  | [a, b, c, d], _ => exact ⟨a, b, c, d, rfl⟩

/-- one node's cells -/
theorem open_node {H : Type} {enc : TypeId × Value → H} {W : World} {sp : Nat → Bool} {hd : Bool} {fuel : Nat} {cs : List Value} {x : DataW H × List MemPlace}
    (h : DataW.trod enc Try.prog W 0 sp hd fuel 50 cs = some x) : ∃ n : Nd, cs = cellsN n := by
  obtain ⟨xs, k, -, -, hlen, hxl, hf⟩ := DataW.trod_struct Try.underlying50 h
  rw [cellsNode] at hlen
  obtain ⟨c0, c1, c2, c3, c4, c5, rfl⟩ := list6 hlen
  obtain ⟨y0, y1, y2, y3, y4, rfl⟩ := list5 hxl
  have g0 : DataW.trod enc Try.prog W 0 sp hd k 3 (List.take (Try.prog.cellsOf 3) (List.drop 0 [c0, c1, c2, c3, c4, c5])) = some y0 := hf 0 _ rfl
  have g1 : DataW.trod enc Try.prog W 0 sp hd k 3 (List.take (Try.prog.cellsOf 3) (List.drop 1 [c0, c1, c2, c3, c4, c5])) = some y1 := hf 1 _ rfl
  have g2 : DataW.trod enc Try.prog W 0 sp hd k 3 (List.take (Try.prog.cellsOf 3) (List.drop 2 [c0, c1, c2, c3, c4, c5])) = some y2 := hf 2 _ rfl
  have g3 : DataW.trod enc Try.prog W 0 sp hd k 3 (List.take (Try.prog.cellsOf 3) (List.drop 3 [c0, c1, c2, c3, c4, c5])) = some y3 := hf 3 _ rfl
  have g4 : DataW.trod enc Try.prog W 0 sp hd k 35 (List.take (Try.prog.cellsOf 35) (List.drop 4 [c0, c1, c2, c3, c4, c5])) = some y4 := hf 4 _ rfl
  rw [cellsInt] at g0 g1 g2 g3
  rw [cellsValue] at g4
  obtain ⟨n0, e0⟩ := one_int g0
  obtain ⟨n1, e1⟩ := one_int g1
  obtain ⟨n2, e2⟩ := one_int g2
  obtain ⟨n3, e3⟩ := one_int g3
  obtain ⟨n4, n5, e4, e5⟩ := two_int g4
  exact ⟨⟨n0, n1, n2, n3, n4, n5⟩, by rw [e0, e1, e2, e3, e4, e5]; rfl⟩

/-- an event's cells -/
theorem open_event {H : Type} {enc : TypeId × Value → H} {W : World} {base : Nat} {v : Value} {d : DataW H} {p : List MemPlace}
    (hv : Value.okWide Try.prog W .any base 37 v) (h : DataW.Trod enc Try.prog W 0 (fun _ => true) true 37 v d p) :
    ∃ t k1 k2 a1 a2 b1 b2 : Int, v = .agg #[.int .i64 t, .int .i64 k1, .int .i64 k2, .int .i64 a1, .int .i64 a2, .int .i64 b1, .int .i64 b2] := by
  obtain ⟨cs, rfl, hsz⟩ := okWide_struct Try.underlying37 hv
  rw [cellsEvent] at hsz
  obtain ⟨c0, c1, c2, c3, c4, c5, c6, hcs⟩ := list7 (by simpa using hsz : cs.toList.length = 7)
  obtain rfl : cs = #[c0, c1, c2, c3, c4, c5, c6] := by cases cs; simp_all
  obtain ⟨fuel, hf⟩ := h
  obtain ⟨xs, k, -, -, -, hxl, hf⟩ := DataW.trod_struct Try.underlying37 hf
  obtain ⟨y0, y1, y2, y3, rfl⟩ := list4 hxl
  have g0 : DataW.trod enc Try.prog W 0 (fun _ => true) true k 3 (List.take (Try.prog.cellsOf 3) (List.drop 0 [c0, c1, c2, c3, c4, c5, c6])) = some y0 := hf 0 _ rfl
  have g1 : DataW.trod enc Try.prog W 0 (fun _ => true) true k 35 (List.take (Try.prog.cellsOf 35) (List.drop 1 [c0, c1, c2, c3, c4, c5, c6])) = some y1 := hf 1 _ rfl
  have g2 : DataW.trod enc Try.prog W 0 (fun _ => true) true k 35 (List.take (Try.prog.cellsOf 35) (List.drop 3 [c0, c1, c2, c3, c4, c5, c6])) = some y2 := hf 2 _ rfl
  have g3 : DataW.trod enc Try.prog W 0 (fun _ => true) true k 35 (List.take (Try.prog.cellsOf 35) (List.drop 5 [c0, c1, c2, c3, c4, c5, c6])) = some y3 := hf 3 _ rfl
  rw [cellsInt] at g0
  rw [cellsValue] at g1 g2 g3
  obtain ⟨n0, e0⟩ := one_int g0
  obtain ⟨m1, n1, e1, e2⟩ := two_int g1
  obtain ⟨m2, n2, e3, e4⟩ := two_int g2
  obtain ⟨m3, n3, e5, e6⟩ := two_int g3
  exact ⟨n0, m1, n1, m2, n2, m3, n3, by rw [e0, e1, e2, e3, e4, e5, e6]⟩

/-- a list of nodes -/
theorem open_nodes {H : Type} {enc : TypeId × Value → H} {W : World} {base : Nat} {v : Value} {d : DataW H} {p : List MemPlace}
    (hv : Value.okWide Try.prog W .any base 33 v) (h : DataW.Trod enc Try.prog W 0 (fun _ => true) true 33 v d p) :
    ∃ l : List Nd, RowG W v 6 l.length (rowN l) ∧ l.length ≤ maxLen := by
  obtain ⟨ao, ln, cp, rfl⟩ := okWide_slice Try.underlying33 hv
  obtain ⟨fuel, hf⟩ := h
  rcases open_slice Try.underlying33 hf with ⟨hc, -⟩ | ⟨a, len, cap, m, n, D, Pl, hc, -, hl, hm, hmm, -, hx⟩
  · simp only [Value.cells, List.cons.injEq, Value.slice.injEq, and_true] at hc
    obtain ⟨rfl, rfl, rfl⟩ := hc
    exact ⟨[], ⟨rfl, .inl ⟨⟨_, _, rfl⟩, rfl⟩⟩, Nat.zero_le _⟩
  · simp only [Value.cells, List.cons.injEq, Value.slice.injEq, and_true] at hc
    obtain ⟨rfl, rfl, rfl⟩ := hc
    simp only [if_true] at hmm
    subst hmm
    rw [cellsNode] at hx
    have each : ∀ i, i < ln → ∃ nd : Nd, ∀ j, j < 6 → W.cell? (a.add (i * 6 + j)) = (cellsN nd)[j]? := by
      intro i hi
      obtain ⟨cs', h1, h2⟩ := hx i (by omega)
      obtain ⟨nd, rfl⟩ := open_node h2
      obtain ⟨-, hlen, hcell⟩ := World.cells?_some h1
      refine ⟨nd, fun j hj => ?_⟩
      have := hcell j hj
      rw [← this, add_add]
    by_cases h0 : ln = 0
    · subst h0
      exact ⟨[], ⟨rfl, .inl ⟨⟨_, _, rfl⟩, rfl⟩⟩, Nat.zero_le _⟩
    · obtain ⟨g, off, spot⟩ := a
      have hspot : spot = none := by
        obtain ⟨nd, hnd⟩ := each 0 (by omega)
        have h9 := hnd 0 (by omega)
        exact (by simpa [Addr.add] using World.cell?_spot (h9.trans rfl))
      subst hspot
      have each2 : ∀ i, ∃ nd : Nd, i < ln → ∀ j, j < 6 → W.cell? ⟨g, off + (i * 6 + j), none⟩ = (cellsN nd)[j]? := by
        intro i
        by_cases hi : i < ln
        · obtain ⟨nd, hnd⟩ := each i hi
          exact ⟨nd, fun _ j hj => by rw [← hnd j hj, add_plain]⟩
        · exact ⟨⟨0, 0, 0, 0, 0, 0⟩, fun h => absurd h hi⟩
      obtain ⟨F, hF⟩ := Classical.axiomOfChoice each2
      have hg : g < W.heap.size := by
        obtain ⟨cs', h1, -⟩ := hx 0 (by omega)
        have := World.cells?_block h1 (by omega)
        simpa [Addr.add] using this
      have hlen : ((List.range ln).map F).length = ln := by simp
      refine ⟨(List.range ln).map F, ⟨rowN_len _, .inr ⟨g, off, m, by rw [hlen], by rw [hlen]; omega, by omega, hg, fun j hj => ?_⟩⟩, by rw [hlen]; omega⟩
      rw [hlen] at hj
      have hi : j / 6 < ln := by omega
      have h1 := hF (j / 6) hi (j % 6) (by omega)
      rw [show j / 6 * 6 + j % 6 = j from by omega] at h1
      rw [h1, ← rowN_at ((List.range ln).map F) (j / 6) (j % 6) (F (j / 6)) (by simp [hi]) (by omega), show j / 6 * 6 + j % 6 = j from by omega]
end Go.Proofs.Ytepfpmagppckeaa

/- Rows of things of several cells each, in slices; a list of such things that is handed in. Conditions: none. -/
import Derived.Test.YtoihjhhambgpfabBase
import Derived.Test.YtoihjhhambgpfabHeld2
import Derived.Test.YtoihjhhambgpfabValArg
namespace Go.Proofs.Ytoihjhhambgpfab
open Go.ChangeShapes Go.WideShapes Go.ChangeAt Go.RowKit Go.Joins Go.Deep
set_option linter.unusedVariables false
set_option linter.unusedSimpArgs false

section
variable {α : Type} {S : Nat} {f : α → List Value}
def rowOf (f : α → List Value) (l : List α) : List Value := l.flatMap f
theorem rowOf_cons (a : α) (l : List α) : rowOf f (a :: l) = f a ++ rowOf f l := rfl
theorem rowOf_len (hf : ∀ a, (f a).length = S) (l : List α) : (rowOf f l).length = l.length * S := by
  induction l with
  | nil => simp [rowOf]
  | cons a l ih =>
    rw [rowOf_cons, List.length_append, ih, hf, List.length_cons, Nat.add_mul, Nat.one_mul, Nat.add_comm]
theorem rowOf_app (l m : List α) : rowOf f (l ++ m) = rowOf f l ++ rowOf f m := by simp [rowOf]
theorem rowOf_one (a : α) : rowOf f [a] = f a := by simp [rowOf]
theorem rowOf_at (hf : ∀ a, (f a).length = S) : ∀ (l : List α) (i j : Nat) (n : α), l[i]? = some n → j < S → (rowOf f l)[i * S + j]? = (f n)[j]?
  | [], i, j, n, h, _ => by simp at h
  | a :: l, 0, j, n, h, hj => by
    simp at h
    subst h
    rw [rowOf_cons, Nat.zero_mul, Nat.zero_add, List.getElem?_append_left (by rw [hf]; exact hj)]
  | a :: l, i + 1, j, n, h, hj => by
    simp at h
    have e : (i + 1) * S + j = S + (i * S + j) := by rw [Nat.add_mul, Nat.one_mul]; omega
    rw [rowOf_cons, e, List.getElem?_append_right (by rw [hf]; omega), hf, show S + (i * S + j) - S = i * S + j from by omega]
    exact rowOf_at hf l i j n h hj
theorem idx_lt {i j n S : Nat} (hi : i < n) (hj : j < S) : i * S + j < n * S := by
  have h : (i + 1) * S ≤ n * S := Nat.mul_le_mul_right S hi
  rw [Nat.add_mul, Nat.one_mul] at h
  omega
theorem rowOf_val (hf : ∀ a, (f a).length = S) {w : World} {l : List α} {ao : Option Addr} {cap : Nat} (h : RowG w (.slice ao l.length cap) S l.length (rowOf f l)) (i : Nat) (hi : i < l.length) :
    ∃ g off, ao = some ⟨g, off, none⟩ ∧ (∀ j, j < S → w.cell? ⟨g, off + (i * S + j), none⟩ = (f l[i])[j]?) ∧ l.length ≤ cap ∧ cap ≤ maxLen ∧ g < w.heap.size := by
  obtain ⟨h0, h⟩ := h
  rcases h with ⟨-, h⟩ | ⟨g, off, cap', e, h1, h2, h3, h4⟩
  · omega
  · simp only [Value.slice.injEq] at e
    obtain ⟨rfl, -, rfl⟩ := e
    exact ⟨g, off, rfl, fun j hj => by rw [h4 (i * S + j) (idx_lt hi hj), rowOf_at hf l i j l[i] (List.getElem?_eq_getElem hi) hj], h1, h2, h3⟩

set_option maxRecDepth 100000 in
/-- a list of things that is handed in -/
theorem open_list {H : Type} {enc : TypeId × Value → H} {W : World} {base : Nat} {v : Value} {d : DataW H} {p : List MemPlace} {ts te : TypeId} (hf : ∀ a, (f a).length = S) (hS : 0 < S)
    (hu : Try.prog.underlying ts = some (.slice te)) (hc : Try.prog.cellsOf te = S) (dflt : α)
    (open1 : ∀ {sp : Nat → Bool} {hd : Bool} {fuel : Nat} {cs : List Value} {x : DataW H × List MemPlace}, DataW.trod enc Try.prog W 0 sp hd fuel te cs = some x → ∃ n : α, cs = f n)
    (hv : Value.okWide Try.prog W .any base ts v) (h : DataW.Trod enc Try.prog W 0 (fun _ => true) true ts v d p) :
    ∃ l : List α, RowG W v S l.length (rowOf f l) ∧ l.length ≤ maxLen := by
  obtain ⟨ao, ln, cp, rfl⟩ := okWide_slice hu hv
  obtain ⟨fuel, hfu⟩ := h
  have nilcase : ∀ (ao : Option Addr) (cp : Nat), ∃ l : List α, RowG W (.slice ao 0 cp) S l.length (rowOf f l) ∧ l.length ≤ maxLen := fun ao cp =>
    ⟨[], ⟨by simp [rowOf], .inl ⟨⟨_, _, rfl⟩, rfl⟩⟩, Nat.zero_le _⟩
  rcases open_slice hu hfu with ⟨hc', -⟩ | ⟨a, len, cap, m, n, D, Pl, hc', -, hl, hm, hmm, -, hx⟩
  · simp only [Value.cells, List.cons.injEq, Value.slice.injEq, and_true] at hc'
    obtain ⟨rfl, rfl, rfl⟩ := hc'
    exact nilcase _ _
  · simp only [Value.cells, List.cons.injEq, Value.slice.injEq, and_true] at hc'
    obtain ⟨rfl, rfl, rfl⟩ := hc'
    simp only [if_true] at hmm
    subst hmm
    rw [hc] at hx
    have each : ∀ i, i < ln → ∃ nd : α, ∀ j, j < S → W.cell? (a.add (i * S + j)) = (f nd)[j]? := by
      intro i hi
      obtain ⟨cs', h1, h2⟩ := hx i (by omega)
      obtain ⟨nd, rfl⟩ := open1 h2
      obtain ⟨-, hlen, hcell⟩ := World.cells?_some h1
      refine ⟨nd, fun j hj => ?_⟩
      have := hcell j hj
      rw [← this, add_add]
    by_cases h0 : ln = 0
    · subst h0
      exact nilcase _ _
    · obtain ⟨g, off, spot⟩ := a
      have hspot : spot = none := by
        obtain ⟨nd, hnd⟩ := each 0 (by omega)
        have h9 := hnd 0 hS
        have hlt : 0 < (f nd).length := by rw [hf]; exact hS
        rw [List.getElem?_eq_getElem hlt] at h9
        exact (by simpa [Addr.add] using World.cell?_spot h9)
      subst hspot
      have each2 : ∀ i, ∃ nd : α, i < ln → ∀ j, j < S → W.cell? ⟨g, off + (i * S + j), none⟩ = (f nd)[j]? := by
        intro i
        by_cases hi : i < ln
        · obtain ⟨nd, hnd⟩ := each i hi
          exact ⟨nd, fun _ j hj => by rw [← hnd j hj, add_plain]⟩
        · exact ⟨dflt, fun h => absurd h hi⟩
      obtain ⟨F, hF⟩ := Classical.axiomOfChoice each2
      have hg : g < W.heap.size := by
        obtain ⟨cs', h1, -⟩ := hx 0 (by omega)
        have := World.cells?_block h1 (by omega)
        simpa [Addr.add] using this
      have hlen : ((List.range ln).map F).length = ln := by simp
      refine ⟨(List.range ln).map F, ⟨rowOf_len hf _, .inr ⟨g, off, m, by rw [hlen], by rw [hlen]; omega, by omega, hg, fun j hj => ?_⟩⟩, by rw [hlen]; omega⟩
      rw [hlen] at hj
      have hi : j / S < ln := (Nat.div_lt_iff_lt_mul hS).2 hj
      have hr : j % S < S := Nat.mod_lt _ hS
      have e : j / S * S + j % S = j := by rw [Nat.mul_comm]; exact Nat.div_add_mod j S
      have h1 := hF (j / S) hi (j % S) hr
      rw [e] at h1
      rw [h1, ← rowOf_at hf ((List.range ln).map F) (j / S) (j % S) (F (j / S)) (by simp [hi]) hr, e]
end
end Go.Proofs.Ytoihjhhambgpfab

/- What was gathered, in four cells of a variable: kept by calls, and written anew. Conditions: none. -/
import Derived.Test.YtoihjhhambgpfabGather1
namespace Go.Proofs.Ytoihjhhambgpfab
open Go.ChangeShapes Go.WideShapes Go.ChangeAt Go.RowKit
set_option linter.unusedVariables false
set_option linter.unusedSimpArgs false

theorem wrapIn (n : Int) (h0 : -9223372036854775808 ≤ n) (h1 : n ≤ 9223372036854775807) : IntKind.i64.wrap n = n := by
  rw [IntKind.wrap_i64]
  omega

/-- four cells, not frozen -/
structure AccAt (w : World) (g : Nat) (k n s b : Int) : Prop where
  c0 : w.cell? ⟨g, 0, none⟩ = some (.int .i64 k)
  c1 : w.cell? ⟨g, 1, none⟩ = some (.int .i64 n)
  c2 : w.cell? ⟨g, 2, none⟩ = some (.int .i64 s)
  c3 : w.cell? ⟨g, 3, none⟩ = some (.int .i64 b)
  fz : ∀ o, w.frozen? ⟨g, o, none⟩ = false
  lt : g < w.heap.size

theorem accAt_new (w : World) (k n s b : Int) : AccAt (w.alloc (.cells #[.int .i64 k, .int .i64 n, .int .i64 s, .int .i64 b] 55)) w.heap.size k n s b :=
  ⟨by go_simp, by go_simp, by go_simp, by go_simp, fun o => by go_simp, by simp⟩
theorem accAt_below {w w' : World} {B g : Nat} {k n s b : Int} (h : AccAt w g k n s b) (hb : Below B w w') (hg : g < B) : AccAt w' g k n s b :=
  ⟨(hb.cell (p := ⟨g, 0, none⟩) hg).trans h.c0, (hb.cell (p := ⟨g, 1, none⟩) hg).trans h.c1, (hb.cell (p := ⟨g, 2, none⟩) hg).trans h.c2, (hb.cell (p := ⟨g, 3, none⟩) hg).trans h.c3, fun o => (hb.frozen (p := ⟨g, o, none⟩) hg).trans (h.fz o), Nat.lt_of_lt_of_le h.lt hb.size⟩
/-- four cells written -/
def set4 (w : World) (g : Nat) (k n s b : Int) : World := (((w.setCell ⟨g, 0, none⟩ (.int .i64 k)).setCell ⟨g, 1, none⟩ (.int .i64 n)).setCell ⟨g, 2, none⟩ (.int .i64 s)).setCell ⟨g, 3, none⟩ (.int .i64 b)
theorem cell_other {w : World} {g o g' o' : Nat} {v : Value} (h : g' ≠ g ∨ o' ≠ o) : (w.setCell ⟨g', o', none⟩ v).cell? ⟨g, o, none⟩ = w.cell? ⟨g, o, none⟩ :=
  World.cell?_setCell_other _ _ _ _ (by intro e; simp only [Addr.mk.injEq] at e; omega)
theorem accAt_far {w : World} {g g' : Nat} {k n s b k' n' s' b' : Int} (h : AccAt w g k n s b) (hg : g' ≠ g) : AccAt (set4 w g' k' n' s' b') g k n s b := by
  have hc : ∀ o, (set4 w g' k' n' s' b').cell? ⟨g, o, none⟩ = w.cell? ⟨g, o, none⟩ := fun o => by
    unfold set4
    rw [cell_other (.inl hg), cell_other (.inl hg), cell_other (.inl hg), cell_other (.inl hg)]
  have hf : ∀ o, (set4 w g' k' n' s' b').frozen? ⟨g, o, none⟩ = w.frozen? ⟨g, o, none⟩ := fun o => by
    unfold set4
    rw [World.frozen?_setCell, World.frozen?_setCell, World.frozen?_setCell, World.frozen?_setCell]
  exact ⟨(hc 0).trans h.c0, (hc 1).trans h.c1, (hc 2).trans h.c2, (hc 3).trans h.c3, fun o => (hf o).trans (h.fz o), by simpa [set4, World.setCell] using h.lt⟩
theorem accAt_set {w : World} {g : Nat} {k n s b k' n' s' b' : Int} (h : AccAt w g k n s b) : AccAt (set4 w g k' n' s' b') g k' n' s' b' := by
  unfold set4
  have hf : ∀ o, ((((w.setCell ⟨g, 0, none⟩ (.int .i64 k')).setCell ⟨g, 1, none⟩ (.int .i64 n')).setCell ⟨g, 2, none⟩ (.int .i64 s')).setCell ⟨g, 3, none⟩ (.int .i64 b')).frozen? ⟨g, o, none⟩ = w.frozen? ⟨g, o, none⟩ := fun o => by
    rw [World.frozen?_setCell, World.frozen?_setCell, World.frozen?_setCell, World.frozen?_setCell]
  refine ⟨?_, ?_, ?_, ?_, fun o => (hf o).trans (h.fz o), by simpa [World.setCell] using h.lt⟩
  · rw [cell_other (.inr (by decide)), cell_other (.inr (by decide)), cell_other (.inr (by decide))]
    exact World.cell?_setCell_same _ _ _ h.c0
  · rw [cell_other (.inr (by decide)), cell_other (.inr (by decide))]
    exact World.cell?_setCell_same _ _ _ ((cell_other (.inr (by decide))).trans h.c1)
  · rw [cell_other (.inr (by decide))]
    exact World.cell?_setCell_same _ _ _ ((cell_other (.inr (by decide))).trans ((cell_other (.inr (by decide))).trans h.c2))
  · exact World.cell?_setCell_same _ _ _ ((cell_other (.inr (by decide))).trans ((cell_other (.inr (by decide))).trans ((cell_other (.inr (by decide))).trans h.c3)))
theorem set4_below {w0 w : World} {B g : Nat} {k n s b : Int} (h : Below B w0 w) (hg : B ≤ g) : Below B w0 (set4 w g k n s b) :=
  (((h.setCell (p := ⟨g, 0, none⟩) hg _).setCell (p := ⟨g, 1, none⟩) hg _).setCell (p := ⟨g, 2, none⟩) hg _).setCell (p := ⟨g, 3, none⟩) hg _
theorem keep_set4 {WX w' : World} {g : Nat} {k n s b : Int} (h : SKeep WX g w') : SKeep WX g (set4 w' g k n s b) := keep_set (keep_set (keep_set (keep_set h _ _) _ _) _ _) _ _

/-- an element of a row of values, in a world that keeps the row -/
theorem rowV_in {w w' : World} {l : List V2} {ao : Option Addr} {cap : Nat} (h : RowG w (.slice ao l.length cap) 2 l.length (rowV l)) (hb : Below w.heap.size w w') (i : Nat) (hi : i < l.length) :
    ∃ g off, ao = some ⟨g, off, none⟩ ∧ w'.cell? ⟨g, off + i * 2, none⟩ = some (.int .i64 l[i].1) ∧ w'.cell? ⟨g, off + i * 2 + 1, none⟩ = some (.int .i64 l[i].2) ∧ l.length ≤ cap ∧ cap ≤ maxLen ∧ g < w.heap.size := by
  obtain ⟨g, off, e, c0, c1, h1, h2, h3⟩ := rowV_val h i hi
  exact ⟨g, off, e, (hb.cell (p := ⟨g, _, none⟩) h3).trans c0, (hb.cell (p := ⟨g, _, none⟩) h3).trans c1, h1, h2, h3⟩
end Go.Proofs.Ytoihjhhambgpfab

/- Blocks of many cells: what is loaded and stored as a whole; sectors and writes in memory. Conditions: none. -/
import Derived.Test.YtjiopjdbifcfkacKept
import Derived.Test.YtjiopjdbifcfkacHeldF
import Derived.Laws.IdiomCopy
import Derived.Laws.IdiomStrings
import Derived.Lib.LazyBuf
import Derived.Deep.MidRow
namespace Go.Proofs.Ytjiopjdbifcfkac
open Go.ChangeShapes Go.WideShapes Go.ChangeAt Go.RowKit
set_option linter.unusedVariables false
set_option linter.unusedSimpArgs false

/-- bytes as cells -/
def bc (d : List UInt8) : List Value := d.map fun x => Value.int .u8 (x.toNat : Int)
theorem bc_len (d : List UInt8) : (bc d).length = d.length := by simp [bc]
/-- a sector's bytes -/
abbrev Blk := { l : List UInt8 // l.length = 256 }
/-- a write that isn't kept yet: its bit, its bytes -/
abbrev Wr := Int × Blk
def cellsW (p : Wr) : List Value := .int .i64 p.1 :: bc p.2.1
def rowW (ws : List Wr) : List Value := rowOf cellsW ws
theorem cellsW_len (p : Wr) : (cellsW p).length = 257 := by simp [cellsW, bc_len, p.2.2]

theorem below_alloc (w : World) (o : Obj) : Below w.heap.size w (w.alloc o) := (Below.refl _ _).alloc (Nat.le_refl _) o
theorem blk_alloc (w : World) (cs : List Value) (e : TypeId) : BlkAt (w.alloc (.cells cs.toArray e)) w.heap.size cs := by
  refine ⟨fun j hj => ?_, fun o => by go_simp, by simp⟩
  simp
theorem add_at (g o j : Nat) : (⟨g, o, none⟩ : Addr).add j = ⟨g, o + j, none⟩ := by unfold Addr.add; split <;> simp_all
/-- many cells, loaded as a whole -/
theorem run_load_many {w : World} {g o n : Nat} (cs : List Value) (hn : cs.length = n) (h : ∀ j, j < n → w.cell? ⟨g, o + j, none⟩ = cs[j]?) :
    (loadCellsFrom ⟨g, o, none⟩ 0 n #[]).run Try.prog w = .ok cs.toArray w := by
  subst hn
  have := run_loadCells_list (P := Try.prog) w ⟨g, o, none⟩ cs (fun j v hv => by
    rw [add_at, h j (List.getElem?_eq_some_iff.1 hv).1, hv])
  simpa [loadCells] using this
theorem heap_setCells (g : Nat) (i : Nat) (hi : i ≠ g) : ∀ (vs : List Value) (o : Nat) (w : World), (w.setCells g o vs).heap[i]? = w.heap[i]?
  | [], _, _ => rfl
  | v :: r, o, w => by
    rw [World.setCells, heap_setCells g i hi r (o + 1) _]
    exact Below.heap_setCell w _ v i hi
theorem size_setCells (g : Nat) : ∀ (vs : List Value) (o : Nat) (w : World), (w.setCells g o vs).heap.size = w.heap.size
  | [], _, _ => rfl
  | v :: r, o, w => by
    rw [World.setCells, size_setCells g r (o + 1) _]
    simp
theorem kept_setCells {a b : World} {bad : Nat → Prop} {g : Nat} (hg : bad g) : ∀ (vs : List Value) (o : Nat) (b : World), KeptB a b bad → KeptB a (b.setCells g o vs) bad
  | [], _, _, h => h
  | v :: r, o, b, h => kept_setCells (b := b) hg r (o + 1) _ (keptB_set h hg o v)
/-- a part of a block, stored as a whole -/
theorem blk_setCells {w : World} {g : Nat} {C : List Value} (h : BlkAt w g C) (o : Nat) (vs : List Value) (ho : o + vs.length ≤ C.length) : BlkAt (w.setCells g o vs) g (C.take o ++ (vs ++ C.drop (o + vs.length))) := by
  have hto : (C.take o).length = o := by rw [List.length_take]; omega
  refine ⟨fun j hj => ?_, fun p => by rw [World.frozen?_setCells]; exact h.fz p, by rw [size_setCells]; exact h.lt⟩
  have hl : (C.take o ++ (vs ++ C.drop (o + vs.length))).length = C.length := by
    rw [List.length_append, List.length_append, hto, List.length_drop]
    omega
  rw [hl] at hj
  by_cases h1 : j < o
  · rw [World.cell?_setCells_out g vs o w _ (fun _ _ => .inl h1), h.c j hj, List.getElem?_append_left (by omega), List.getElem?_take_of_lt h1]
  · by_cases h2 : j < o + vs.length
    · obtain ⟨i, rfl⟩ : ∃ i, j = o + i := ⟨j - o, by omega⟩
      rw [World.cell?_setCells_in g vs o w (fun q hq => by rw [h.c (o + q) (by omega)]; simp; omega) i (by omega), List.getElem?_append_right (by omega), hto, List.getElem?_append_left (by omega), Nat.add_sub_cancel_left, List.getElem?_eq_getElem]
    · rw [World.cell?_setCells_out g vs o w _ (fun _ _ => .inr (by show o + vs.length ≤ j; omega)), h.c j hj, List.getElem?_append_right (by omega), hto, List.getElem?_append_right (by omega), List.getElem?_drop]
      congr 1
      omega
theorem blk_far_cells {w : World} {g g' : Nat} {C : List Value} (h : BlkAt w g C) (hne : g' ≠ g) (o : Nat) (vs : List Value) : BlkAt (w.setCells g' o vs) g C :=
  ⟨fun j hj => (World.cell?_of_block (w := w) (heap_setCells g' g (fun e => hne e.symm) vs o w)).trans (h.c j hj), fun p => by rw [World.frozen?_setCells]; exact h.fz p, by rw [size_setCells]; exact h.lt⟩
theorem run_store_many {w : World} {g o : Nat} {C : List Value} (h : BlkAt w g C) (vs : List Value) (ho : o + vs.length ≤ C.length) (h1 : ∀ v ∈ vs, v.oneCell' = true) :
    (storeCells ⟨g, o, none⟩ vs 0).run Try.prog w = .ok () (w.setCells g o vs) := by
  have := run_storeCells_cells (P := Try.prog) g o vs 0 w (fun j hj => by rw [Nat.add_zero, h.c (o + j) (by omega)]; simp; omega) (fun j hj => h.fz _) h1
  simpa using this
theorem bc_one (d : List UInt8) : ∀ v ∈ bc d, v.oneCell' = true := fun v hv => by
  obtain ⟨x, _, rfl⟩ := List.mem_map.1 hv
  rfl
theorem cellsW_one (p : Wr) : ∀ v ∈ cellsW p, v.oneCell' = true := fun v hv => by
  rcases List.mem_cons.1 hv with rfl | hv
  · rfl
  · exact bc_one _ v hv
theorem wrapIn2 (n : Int) (h0 : -9223372036854775808 ≤ n) (h1 : n ≤ 9223372036854775807) : IntKind.i64.wrap n = n := by
  rw [IntKind.wrap_i64]
  omega
theorem sizeW : (Try.prog.info? 74).map (·.size) = some 257 := by kernel_rfl
theorem sizeB : (Try.prog.info? 62).map (·.size) = some 256 := by kernel_rfl
end Go.Proofs.Ytjiopjdbifcfkac

/- Worlds that keep all but some blocks; lists of things of several cells each, in rows (what Tab and RowOf have, without their seats' types). Conditions: none. -/
import Derived.Test.YtjiopjdbifcfkacHeld2
import Derived.OneCell
namespace Go.Proofs.Ytjiopjdbifcfkac
open Go.ChangeShapes Go.WideShapes Go.ChangeAt Go.RowKit
set_option linter.unusedVariables false
set_option linter.unusedSimpArgs false

/-- all that was there is as it was, but for some blocks -/
structure KeptB (w w' : World) (bad : Nat → Prop) : Prop where
  b0 : Below 0 w w'
  block : ∀ k, k < w.heap.size → ¬ bad k → w'.heap[k]? = w.heap[k]?
theorem keptB_of_below {w w' : World} {bad : Nat → Prop} (h : Below w.heap.size w w') : KeptB w w' bad := ⟨h.mono (Nat.zero_le _), fun k hk _ => h.block k hk⟩
theorem keptB_trans {a b c : World} {bad : Nat → Prop} (h : KeptB a b bad) (k : KeptB b c bad) : KeptB a c bad :=
  ⟨h.b0.trans k.b0, fun i hi hn => (k.block i (Nat.lt_of_lt_of_le hi h.b0.size) hn).trans (h.block i hi hn)⟩
theorem keptB_mono {a b : World} {bad bad' : Nat → Prop} (h : KeptB a b bad) (hm : ∀ k, bad k → bad' k) : KeptB a b bad' := ⟨h.b0, fun i hi hn => h.block i hi (fun hb => hn (hm i hb))⟩
theorem keptB_set {a b : World} {bad : Nat → Prop} (h : KeptB a b bad) {g : Nat} (hg : bad g) (o : Nat) (v : Value) : KeptB a (b.setCell ⟨g, o, none⟩ v) bad :=
  ⟨h.b0.setCell (p := ⟨g, o, none⟩) (Nat.zero_le _) v, fun i hi hn => (Below.heap_setCell b _ v i (fun e => hn (e ▸ hg))).trans (h.block i hi hn)⟩
theorem keptB_grown {a b c : World} {bad : Nat → Prop} {row : Option Nat} (h : KeptB a b bad) (hg : b.grownBy c row) (hr : ∀ k, row = some k → k < a.heap.size → bad k) : KeptB a c bad :=
  ⟨h.b0.grown hg (Nat.zero_le _) (fun k _ => Nat.zero_le k), fun i hi hn => (hg.block i (Nat.lt_of_lt_of_le hi h.b0.size) (fun e => hn (hr i e.symm hi))).trans (h.block i hi hn)⟩
theorem keptB_below {w w' : World} {bad : Nat → Prop} (h : KeptB w w' bad) {B : Nat} (hB : B ≤ w.heap.size) (hb : ∀ k, bad k → B ≤ k) : Below B w w' :=
  ⟨h.b0.os, h.b0.tape, h.b0.output, h.b0.size, fun k hk => h.block k (by omega) (fun hbk => by have := hb k hbk; omega)⟩
theorem blk_kept {w w' : World} {g : Nat} {C : List Value} {bad : Nat → Prop} (h : BlkAt w g C) (hk : KeptB w w' bad) (hb : ¬ bad g) : BlkAt w' g C :=
  ⟨fun j hj => (World.cell?_of_block (w := w) (hk.block g h.lt hb)).trans (h.c j hj), fun o => (World.frozen?_of_block (w := w) (hk.block g h.lt hb)).trans (h.fz o), Nat.lt_of_lt_of_le h.lt hk.b0.size⟩
theorem kept_cell {w w' : World} {bad : Nat → Prop} (h : KeptB w w' bad) {g : Nat} (o : Nat) (hg : g < w.heap.size) (hb : ¬ bad g) : w'.cell? ⟨g, o, none⟩ = w.cell? ⟨g, o, none⟩ := World.cell?_of_block (w := w) (h.block g hg hb)
theorem own_kept {w w' : World} {base size n : Nat} {e : TypeId} {v : Value} {xs : List Value} {bad : Nat → Prop} (h : w.ownsRow base e size v n xs) (hk : KeptB w w' bad) (hb : ∀ k, v.ownBlock = some k → ¬ bad k) : w'.ownsRow base e size v n xs := by
  obtain ⟨h0, h1⟩ := h
  refine ⟨h0, ?_⟩
  rcases h1 with h1 | ⟨g, cap, cur, e1, hb', hg, hle, hm, hs, ht⟩
  · exact .inl h1
  · have hsz : g < w.heap.size := (Array.getElem?_eq_some_iff.1 hg).1
    exact .inr ⟨g, cap, cur, e1, hb', by rw [hk.block g hsz (hb g (by rw [e1]; rfl))]; exact hg, hle, hm, hs, ht⟩
theorem own_at {w : World} {base size n : Nat} {e : TypeId} {v : Value} {xs : List Value} (h : w.ownsRow base e size v n xs) : ∀ k, v.ownBlock = some k → base ≤ k ∧ k < w.heap.size := by
  intro k hk
  rcases h.2 with ⟨rfl, -⟩ | ⟨g, cap, cur, rfl, hb, hg, -⟩
  · simp [Value.ownBlock] at hk
  · simp only [Value.ownBlock, Option.some.injEq] at hk
    subst hk
    exact ⟨hb, (Array.getElem?_eq_some_iff.1 hg).1⟩

theorem owns_baseG {w : World} {base base' n size : Nat} {e : TypeId} {v : Value} {xs : List Value} (h : w.ownsRow base e size v n xs) (hb : base' ≤ base) : w.ownsRow base' e size v n xs := by
  obtain ⟨h0, h1⟩ := h
  refine ⟨h0, ?_⟩
  rcases h1 with h1 | ⟨g, cap, cur, e1, hb', hg', hle, hm, hs, ht⟩
  · exact .inl h1
  · exact .inr ⟨g, cap, cur, e1, by omega, hg', hle, hm, hs, ht⟩
section
variable {α : Type} {S : Nat} {f : α → List Value}
def rowOf (f : α → List Value) (l : List α) : List Value := l.flatMap f
theorem rowOf_cons (a : α) (l : List α) : rowOf f (a :: l) = f a ++ rowOf f l := rfl
theorem rowOf_len (hf : ∀ a, (f a).length = S) (l : List α) : (rowOf f l).length = l.length * S := by
  induction l with
  | nil => simp [rowOf]
  | cons a l ih =>
    rw [rowOf_cons, List.length_append, ih, hf, List.length_cons, Nat.add_mul, Nat.one_mul, Nat.add_comm]
theorem rowOf_app (l m : List α) : rowOf f (l ++ m) = rowOf f l ++ rowOf f m := by simp [rowOf]
theorem rowOf_one (a : α) : rowOf f [a] = f a := by simp [rowOf]
theorem rowOf_at (hf : ∀ a, (f a).length = S) : ∀ (l : List α) (i j : Nat) (n : α), l[i]? = some n → j < S → (rowOf f l)[i * S + j]? = (f n)[j]?
  | [], i, j, n, h, _ => by simp at h
  | a :: l, 0, j, n, h, hj => by
    simp at h
    subst h
    rw [rowOf_cons, Nat.zero_mul, Nat.zero_add, List.getElem?_append_left (by rw [hf]; exact hj)]
  | a :: l, i + 1, j, n, h, hj => by
    simp at h
    have e : (i + 1) * S + j = S + (i * S + j) := by rw [Nat.add_mul, Nat.one_mul]; omega
    rw [rowOf_cons, e, List.getElem?_append_right (by rw [hf]; omega), hf, show S + (i * S + j) - S = i * S + j from by omega]
    exact rowOf_at hf l i j n h hj
theorem idx_lt {i j n S : Nat} (hi : i < n) (hj : j < S) : i * S + j < n * S := by
  have h : (i + 1) * S ≤ n * S := Nat.mul_le_mul_right S hi
  rw [Nat.add_mul, Nat.one_mul] at h
  omega
theorem rowOf_val (hf : ∀ a, (f a).length = S) {w : World} {l : List α} {ao : Option Addr} {cap : Nat} (h : RowG w (.slice ao l.length cap) S l.length (rowOf f l)) (i : Nat) (hi : i < l.length) :
    ∃ g off, ao = some ⟨g, off, none⟩ ∧ (∀ j, j < S → w.cell? ⟨g, off + (i * S + j), none⟩ = (f l[i])[j]?) ∧ l.length ≤ cap ∧ cap ≤ maxLen ∧ g < w.heap.size := by
  obtain ⟨h0, h⟩ := h
  rcases h with ⟨-, h⟩ | ⟨g, off, cap', e, h1, h2, h3, h4⟩
  · omega
  · simp only [Value.slice.injEq] at e
    obtain ⟨rfl, -, rfl⟩ := e
    exact ⟨g, off, rfl, fun j hj => by rw [h4 (i * S + j) (idx_lt hi hj), rowOf_at hf l i j l[i] (List.getElem?_eq_getElem hi) hj], h1, h2, h3⟩

end
end Go.Proofs.Ytjiopjdbifcfkac

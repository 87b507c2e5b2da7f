/- Lists of lists of events whose memory is their own: what is appended to one of them, and what stays. Conditions: none. -/
import Derived.Test.YtoihjhhambgpfabSrc1
import Derived.OneCell
namespace Go.Proofs.Ytoihjhhambgpfab
open Go.ChangeShapes Go.WideShapes Go.ChangeAt Go.RowKit
set_option linter.unusedVariables false
set_option linter.unusedSimpArgs false

/-- all that was there is as it was, but for some blocks -/
structure KeptB (w w' : World) (bad : Nat → Prop) : Prop where
  b0 : Below 0 w w'
  block : ∀ k, k < w.heap.size → ¬ bad k → w'.heap[k]? = w.heap[k]?
theorem keptB_of_below {w w' : World} {bad : Nat → Prop} (h : Below w.heap.size w w') : KeptB w w' bad := ⟨h.mono (Nat.zero_le _), fun k hk _ => h.block k hk⟩
theorem keptB_trans {a b c : World} {bad : Nat → Prop} (h : KeptB a b bad) (k : KeptB b c bad) : KeptB a c bad :=
  ⟨h.b0.trans k.b0, fun i hi hn => (k.block i (Nat.lt_of_lt_of_le hi h.b0.size) hn).trans (h.block i hi hn)⟩
theorem keptB_mono {a b : World} {bad bad' : Nat → Prop} (h : KeptB a b bad) (hm : ∀ k, bad k → bad' k) : KeptB a b bad' := ⟨h.b0, fun i hi hn => h.block i hi (fun hb => hn (hm i hb))⟩
theorem keptB_set {a b : World} {bad : Nat → Prop} (h : KeptB a b bad) {g : Nat} (hg : bad g) (o : Nat) (v : Value) : KeptB a (b.setCell ⟨g, o, none⟩ v) bad :=
  ⟨h.b0.setCell (p := ⟨g, o, none⟩) (Nat.zero_le _) v, fun i hi hn => (Below.heap_setCell b _ v i (fun e => hn (e ▸ hg))).trans (h.block i hi hn)⟩
theorem keptB_grown {a b c : World} {bad : Nat → Prop} {row : Option Nat} (h : KeptB a b bad) (hg : b.grownBy c row) (hr : ∀ k, row = some k → k < a.heap.size → bad k) : KeptB a c bad :=
  ⟨h.b0.grown hg (Nat.zero_le _) (fun k _ => Nat.zero_le k), fun i hi hn => (hg.block i (Nat.lt_of_lt_of_le hi h.b0.size) (fun e => hn (hr i e.symm hi))).trans (h.block i hi hn)⟩
theorem keptB_below {w w' : World} {bad : Nat → Prop} (h : KeptB w w' bad) {B : Nat} (hB : B ≤ w.heap.size) (hb : ∀ k, bad k → B ≤ k) : Below B w w' :=
  ⟨h.b0.os, h.b0.tape, h.b0.output, h.b0.size, fun k hk => h.block k (by omega) (fun hbk => by have := hb k hbk; omega)⟩
theorem blk_kept {w w' : World} {g : Nat} {C : List Value} {bad : Nat → Prop} (h : BlkAt w g C) (hk : KeptB w w' bad) (hb : ¬ bad g) : BlkAt w' g C :=
  ⟨fun j hj => (World.cell?_of_block (w := w) (hk.block g h.lt hb)).trans (h.c j hj), fun o => (World.frozen?_of_block (w := w) (hk.block g h.lt hb)).trans (h.fz o), Nat.lt_of_lt_of_le h.lt hk.b0.size⟩
theorem kept_cell {w w' : World} {bad : Nat → Prop} (h : KeptB w w' bad) {g : Nat} (o : Nat) (hg : g < w.heap.size) (hb : ¬ bad g) : w'.cell? ⟨g, o, none⟩ = w.cell? ⟨g, o, none⟩ := World.cell?_of_block (w := w) (h.block g hg hb)
theorem own_kept {w w' : World} {base size n : Nat} {e : TypeId} {v : Value} {xs : List Value} {bad : Nat → Prop} (h : w.ownsRow base e size v n xs) (hk : KeptB w w' bad) (hb : ∀ k, v.ownBlock = some k → ¬ bad k) : w'.ownsRow base e size v n xs := by
  obtain ⟨h0, h1⟩ := h
  refine ⟨h0, ?_⟩
  rcases h1 with h1 | ⟨g, cap, cur, e1, hb', hg, hle, hm, hs, ht⟩
  · exact .inl h1
  · have hsz : g < w.heap.size := (Array.getElem?_eq_some_iff.1 hg).1
    exact .inr ⟨g, cap, cur, e1, hb', by rw [hk.block g hsz (hb g (by rw [e1]; rfl))]; exact hg, hle, hm, hs, ht⟩
theorem own_at {w : World} {base size n : Nat} {e : TypeId} {v : Value} {xs : List Value} (h : w.ownsRow base e size v n xs) : ∀ k, v.ownBlock = some k → base ≤ k ∧ k < w.heap.size := by
  intro k hk
  rcases h.2 with ⟨rfl, -⟩ | ⟨g, cap, cur, rfl, hb, hg, -⟩
  · simp [Value.ownBlock] at hk
  · simp only [Value.ownBlock, Option.some.injEq] at hk
    subst hk
    exact ⟨hb, (Array.getElem?_eq_some_iff.1 hg).1⟩

theorem owns_baseG {w : World} {base base' n size : Nat} {e : TypeId} {v : Value} {xs : List Value} (h : w.ownsRow base e size v n xs) (hb : base' ≤ base) : w.ownsRow base' e size v n xs := by
  obtain ⟨h0, h1⟩ := h
  refine ⟨h0, ?_⟩
  rcases h1 with h1 | ⟨g, cap, cur, e1, hb', hg', hle, hm, hs, ht⟩
  · exact .inl h1
  · exact .inr ⟨g, cap, cur, e1, by omega, hg', hle, hm, hs, ht⟩
/-- a list of lists of events: the lists' headers lie in block go; each has memory of its own -/
structure Tab (B : Nat) (w : World) (go : Nat) (vs : List Value) (M : List (List Ev)) : Prop where
  bk : BlkAt w go vs
  n1 : vs.length = M.length
  rows : ∀ (i : Nat) (v : Value) (r : List Ev), vs[i]? = some v → M[i]? = some r → w.ownsRow B 71 7 v r.length (rowOf cellsE r)
  sep : ∀ (i j : Nat) (v u : Value), i ≠ j → vs[i]? = some v → vs[j]? = some u → v.ownBlock = none ∨ v.ownBlock ≠ u.ownBlock
  out : ∀ (i : Nat) (v : Value), vs[i]? = some v → v.ownBlock ≠ some go
  gB : B ≤ go
def tabBad (go : Nat) (vs : List Value) (k : Nat) : Prop := k = go ∨ ∃ (i : Nat) (v : Value), vs[i]? = some v ∧ v.ownBlock = some k
theorem tab_row {B go : Nat} {w : World} {vs : List Value} {M : List (List Ev)} (h : Tab B w go vs M) {i : Nat} {v : Value} (hv : vs[i]? = some v) : ∃ r, M[i]? = some r ∧ w.ownsRow B 71 7 v r.length (rowOf cellsE r) := by
  have hi : i < M.length := by rw [← h.n1]; exact (List.getElem?_eq_some_iff.1 hv).1
  exact ⟨M[i], List.getElem?_eq_getElem hi, h.rows i v M[i] hv (List.getElem?_eq_getElem hi)⟩
theorem tab_lt {B go : Nat} {w : World} {vs : List Value} {M : List (List Ev)} (h : Tab B w go vs M) {k : Nat} (hk : tabBad go vs k) : B ≤ k ∧ k < w.heap.size := by
  rcases hk with rfl | ⟨i, v, hv, ho⟩
  · exact ⟨h.gB, h.bk.lt⟩
  · obtain ⟨r, -, hr⟩ := tab_row h hv
    exact own_at hr k ho
theorem tab_kept {B go : Nat} {w w' : World} {vs : List Value} {M : List (List Ev)} {bad : Nat → Prop} (h : Tab B w go vs M) (hk : KeptB w w' bad) (hb : ∀ k, tabBad go vs k → ¬ bad k) : Tab B w' go vs M :=
  ⟨blk_kept h.bk hk (hb go (.inl rfl)), h.n1, fun i v r hv hr => own_kept (h.rows i v r hv hr) hk (fun k ho => hb k (.inr ⟨i, v, hv, ho⟩)), h.sep, h.out, h.gB⟩
theorem tab_below {B go : Nat} {w w' : World} {vs : List Value} {M : List (List Ev)} (h : Tab B w go vs M) (hb : Below w.heap.size w w') : Tab B w' go vs M :=
  tab_kept (bad := fun _ => False) h (keptB_of_below hb) (fun _ _ h => h)
/-- no block belongs to both -/
def Sep (go1 : Nat) (vs : List Value) (go2 : Nat) (us : List Value) : Prop := ∀ k, tabBad go1 vs k → tabBad go2 us k → False

theorem tab_app {B go p : Nat} {w w1 w2 : World} {vs : List Value} {M : List (List Ev)} {v v' : Value} {r : List Ev} (h : Tab B w go vs M) (e : Ev) (hp : vs[p]? = some v) (hr : M[p]? = some r) (hb : Below w.heap.size w w1)
    (ho : w2.ownsRow B 71 7 v' (r.length + 1) (rowOf cellsE r ++ cellsE e)) (hg : w1.grownBy w2 v.ownBlock) (hob : v'.ownBlock = v.ownBlock ∨ v'.ownBlock = some w1.heap.size) :
    BlkAt w2 go vs ∧ Tab B (w2.setCell ⟨go, p, none⟩ v') go (vs.set p v') (M.set p (r ++ [e])) ∧ KeptB w (w2.setCell ⟨go, p, none⟩ v') (fun k => k = go ∨ v.ownBlock = some k) := by
  have hpl : p < vs.length := (List.getElem?_eq_some_iff.1 hp).1
  have hpM : p < M.length := (List.getElem?_eq_some_iff.1 hr).1
  have K2 : KeptB w w2 (fun k => k = go ∨ v.ownBlock = some k) := keptB_grown (keptB_of_below hb) hg (fun k hk _ => .inr hk)
  have b1 : BlkAt w2 go vs := blk_grown (blk_below h.bk hb h.bk.lt) hg (h.out p v hp)
  have hsz := hb.size
  have nv' : v'.ownBlock ≠ some go := by
    rcases hob with e1 | e1
    · rw [e1]; exact h.out p v hp
    · rw [e1]; simp only [ne_eq, Option.some.injEq]; have := h.bk.lt; omega
  have fresh : ∀ {i : Nat} {u : Value}, vs[i]? = some u → i ≠ p → v'.ownBlock = none ∨ v'.ownBlock ≠ u.ownBlock := fun {i u} hu hi => by
    rcases hob with e1 | e1
    · rw [e1]; exact h.sep p i v u (Ne.symm hi) hp hu
    · refine .inr (fun e2 => ?_)
      rw [e1] at e2
      obtain ⟨r', -, hr'⟩ := tab_row h hu
      have := (own_at hr' _ e2.symm).2
      omega
  refine ⟨b1, ⟨blk_set b1 p v' hpl, by simpa using h.n1, ?_, ?_, ?_, h.gB⟩, keptB_set K2 (.inl rfl) p v'⟩
  · intro i u s hu hs
    rw [List.getElem?_set] at hu hs
    by_cases hi : p = i
    · subst hi
      simp only [if_true, hpl, hpM, Option.some.injEq] at hu hs
      subst hu hs
      rw [List.length_append, rowOf_app, rowOf_one]
      exact ownsRow_setCell_other ho (by simpa using nv') _
    · simp only [hi, if_false] at hu hs
      refine ownsRow_setCell_other ((own_keep (h.rows i u s hu hs) hb (Nat.le_refl _)).kept hg (h.sep i p u v (fun e => hi e.symm) hu hp)) (by simpa using h.out i u hu) _
  · intro i j u s hij hu hs
    rw [List.getElem?_set] at hu hs
    by_cases hi : p = i
    · subst hi
      simp only [if_true, hpl, Option.some.injEq] at hu
      subst hu
      simp only [hij, if_false] at hs
      exact fresh hs (Ne.symm hij)
    · simp only [hi, if_false] at hu
      by_cases hj : p = j
      · subst hj
        simp only [if_true, hpl, Option.some.injEq] at hs
        subst hs
        rcases fresh hu (Ne.symm hi) with e1 | e1
        · rcases hun : u.ownBlock with _ | b
          · exact .inl rfl
          · exact .inr (by rw [e1]; simp)
        · exact .inr (Ne.symm e1)
      · simp only [hj, if_false] at hs
        exact h.sep i j u s hij hu hs
  · intro i u hu
    rw [List.getElem?_set] at hu
    by_cases hi : p = i
    · subst hi
      simp only [if_true, hpl, Option.some.injEq] at hu
      subst hu
      exact nv'
    · simp only [hi, if_false] at hu
      exact h.out i u hu

theorem bad_app {go p : Nat} {vs : List Value} {v v' : Value} {N : Nat} (hp : vs[p]? = some v) (hob : v'.ownBlock = v.ownBlock ∨ v'.ownBlock = some N) {k : Nat} (hk : tabBad go (vs.set p v') k) : tabBad go vs k ∨ k = N := by
  rcases hk with rfl | ⟨i, u, hu, ho⟩
  · exact .inl (.inl rfl)
  · rw [List.getElem?_set] at hu
    by_cases hi : p = i
    · subst hi
      simp only [if_true, (List.getElem?_eq_some_iff.1 hp).1, Option.some.injEq] at hu
      subst hu
      rcases hob with e | e
      · exact .inl (.inr ⟨p, v, hp, e ▸ ho⟩)
      · rw [e] at ho
        exact .inr (by simpa using ho.symm)
    · simp only [hi, if_false] at hu
      exact .inl (.inr ⟨i, u, hu, ho⟩)

/-- as a list of lists that is read -/
structure TabR (w : World) (go : Nat) (vs : List Value) (M : List (List Ev)) : Prop where
  lt : go < w.heap.size
  n1 : vs.length = M.length
  c : ∀ i, i < vs.length → w.cell? ⟨go, i, none⟩ = vs[i]?
  rows : ∀ (i : Nat) (v : Value) (r : List Ev), vs[i]? = some v → M[i]? = some r → RowG w v 7 r.length (rowOf cellsE r)
theorem tabR_of {B go : Nat} {w : World} {vs : List Value} {M : List (List Ev)} (h : Tab B w go vs M) : TabR w go vs M :=
  ⟨h.bk.lt, h.n1, h.bk.c, fun i v r hv hr => rowG_of_owns (h.rows i v r hv hr)⟩
theorem tabR_below {go : Nat} {w w' : World} {vs : List Value} {M : List (List Ev)} (h : TabR w go vs M) (hb : Below w.heap.size w w') : TabR w' go vs M :=
  ⟨Nat.lt_of_lt_of_le h.lt hb.size, h.n1, fun i hi => (hb.cell (p := ⟨go, i, none⟩) h.lt).trans (h.c i hi), fun i v r hv hr => rowG_below (h.rows i v r hv hr) hb⟩
end Go.Proofs.Ytoihjhhambgpfab

/- A range over a map whose keys are three numbers, of which some are deleted on the way, over this seat's translation. Conditions: as named. -/
import Derived.Test.YtoihjhhambgpfabPaneM
namespace Go.Proofs.Ytoihjhhambgpfab
open Go.ChangeShapes Go.WideShapes Go.ChangeAt Go.RowKit
set_option linter.unusedVariables false
set_option linter.unusedSimpArgs false

/-- a range that is under way: of K0 those are gone that were met and are to go -/
structure IterE (es : Array MapEntry) (clock : Nat) (seen : Array Nat) (K0 K : List K3) (d : K3 → Bool) : Prop where
  me : MapE es clock K
  sub : ∀ k, k ∈ K → k ∈ K0
  sup : ∀ k, k ∈ K0 → d k = false → k ∈ K
  met : ∀ e ∈ es.toList, seen.contains e.born = true → ∀ k, e.key = k3 k → d k = false
theorem iter_start {es : Array MapEntry} {clock : Nat} {K : List K3} (h : MapE es clock K) (d : K3 → Bool) : IterE es clock #[] K K d :=
  ⟨h, fun _ h => h, fun _ h _ => h, fun e _ h => by simp at h⟩
theorem entry_key {es : Array MapEntry} {clock : Nat} {K : List K3} (h : MapE es clock K) {e : MapEntry} (he : e ∈ es.toList) : ∃ k, k ∈ K ∧ e.key = k3 k := by
  have h1 : e.key ∈ es.toList.map (·.key) := List.mem_map.2 ⟨e, he, rfl⟩
  rw [h.ks] at h1
  obtain ⟨k, hk, e9⟩ := List.mem_map.1 h1
  exact ⟨k, hk, e9.symm⟩
theorem iter_done {es : Array MapEntry} {clock : Nat} {seen : Array Nat} {K0 K : List K3} {d : K3 → Bool} (h : IterE es clock seen K0 K d) (hl : (leftOf es seen).size = 0) : ∀ k, k ∈ K ↔ (k ∈ K0 ∧ d k = false) := by
  intro k
  refine ⟨fun hk => ⟨h.sub k hk, ?_⟩, fun hk => h.sup k hk.1 hk.2⟩
  have h1 : k3 k ∈ K.map k3 := List.mem_map.2 ⟨k, hk, rfl⟩
  rw [← h.me.ks] at h1
  obtain ⟨e, he, h2⟩ := List.mem_map.1 h1
  exact h.met e he (all_seen es seen hl e he) k h2
theorem iter_keep {es : Array MapEntry} {clock : Nat} {seen : Array Nat} {K0 K : List K3} {d : K3 → Bool} (h : IterE es clock seen K0 K d) {e : MapEntry} (he : e ∈ es.toList) {k : K3} (hk : e.key = k3 k) (hd : d k = false) : IterE es clock (seen.push e.born) K0 K d := by
  refine ⟨h.me, h.sub, h.sup, fun x hx hs q hq => ?_⟩
  rw [contains_push, Bool.or_eq_true] at hs
  rcases hs with hs | hs
  · exact h.met x hx hs q hq
  · have e1 := born_inj h.me.nd hx he (by simpa using hs)
    subst e1
    have := k3_inj (hk.symm.trans hq)
    subst this
    exact hd
theorem key_at {es : Array MapEntry} {clock : Nat} {K : List K3} (h : MapE es clock K) {i : Nat} {k : K3} (hi : K[i]? = some k) : ∃ x, es.toList[i]? = some x ∧ x.key = k3 k := by
  have h1 : (es.toList.map (·.key))[i]? = (K.map k3)[i]? := by rw [h.ks]
  rw [List.getElem?_map, List.getElem?_map, hi] at h1
  cases hx : es.toList[i]? with
  | none => rw [hx] at h1; simp at h1
  | some x =>
    rw [hx] at h1
    exact ⟨x, rfl, by simpa using h1⟩
theorem key_back {es : Array MapEntry} {clock : Nat} {K : List K3} (h : MapE es clock K) {i : Nat} {x : MapEntry} (hi : es.toList[i]? = some x) : ∃ k, K[i]? = some k ∧ x.key = k3 k := by
  have h1 : (es.toList.map (·.key))[i]? = (K.map k3)[i]? := by rw [h.ks]
  rw [List.getElem?_map, List.getElem?_map, hi] at h1
  cases hx : K[i]? with
  | none => rw [hx] at h1; simp at h1
  | some k =>
    rw [hx] at h1
    exact ⟨k, rfl, by simpa using h1⟩
theorem nodup_at {K : List K3} (h : K.Nodup) {i j : Nat} {k : K3} (hi : K[i]? = some k) (hj : K[j]? = some k) : i = j := by
  obtain ⟨hi', e1⟩ := List.getElem?_eq_some_iff.1 hi
  obtain ⟨hj', e2⟩ := List.getElem?_eq_some_iff.1 hj
  exact (List.getElem_inj h).1 (e1.trans e2.symm)
theorem erased (es : Array MapEntry) (i : Nat) : (es.eraseIdxIfInBounds i).toList = es.toList.eraseIdx i := by
  unfold Array.eraseIdxIfInBounds
  split
  · simp
  · rename_i h
    rw [List.eraseIdx_of_length_le]
    simpa using h
theorem map_erase {α β : Type} (f : α → β) : ∀ (l : List α) (i : Nat), (l.eraseIdx i).map f = (l.map f).eraseIdx i
  | [], _ => by simp
  | a :: l, 0 => by simp
  | a :: l, i + 1 => by simp [map_erase f l i]
theorem left_len (es : Array MapEntry) (seen : Array Nat) : (leftOf es seen).size = (es.toList.filter fun e => !seen.contains e.born).length := by
  unfold leftOf
  rw [← Array.toList_filter, Array.length_toList]
theorem iter_drop {es : Array MapEntry} {clock : Nat} {seen : Array Nat} {K0 K : List K3} {d : K3 → Bool} (h : IterE es clock seen K0 K d) {e : MapEntry} (he : e ∈ es.toList) {k : K3} (hk : e.key = k3 k) (hd : d k = true) {i : Nat} (hi : K[i]? = some k) :
    IterE (es.eraseIdxIfInBounds i) clock (seen.push e.born) K0 (K.eraseIdx i) d := by
  have hsub : ∀ x ∈ (es.eraseIdxIfInBounds i).toList, x ∈ es.toList := fun x hx => by
    rw [erased] at hx
    exact List.mem_of_mem_eraseIdx hx
  have hmem : ∀ q, q ∈ K.eraseIdx i ↔ ∃ j, j ≠ i ∧ K[j]? = some q := fun q => List.mem_eraseIdx_iff_getElem?
  refine ⟨⟨?_, fun x hx => h.me.vs x (hsub x hx), fun x hx => h.me.bn x (hsub x hx), ?_, ?_⟩, fun q hq => h.sub q (List.mem_of_mem_eraseIdx hq), fun q hq hdq => ?_, fun x hx hs q hq => ?_⟩
  · rw [erased, map_erase, map_erase, h.me.ks]
  · rw [erased, map_erase]
    exact h.me.nd.sublist (List.eraseIdx_sublist _ _)
  · exact h.me.kd.sublist (List.eraseIdx_sublist _ _)
  · have hqk := h.sup q hq hdq
    obtain ⟨j, hj⟩ := List.mem_iff_getElem?.1 hqk
    refine (hmem q).2 ⟨j, fun e1 => ?_, hj⟩
    subst e1
    rw [hi] at hj
    cases hj
    rw [hd] at hdq
    cases hdq
  · rw [contains_push, Bool.or_eq_true] at hs
    rcases hs with hs | hs
    · exact h.met x (hsub x hx) hs q hq
    · exfalso
      have e1 := born_inj h.me.nd (hsub x hx) he (by simpa using hs)
      subst e1
      have h2 : k ∈ K.eraseIdx i := by
        have h3 : x.key ∈ ((es.eraseIdxIfInBounds i).toList).map (·.key) := List.mem_map.2 ⟨x, hx, rfl⟩
        rw [erased, map_erase, h.me.ks, ← map_erase] at h3
        obtain ⟨q2, hq2, h4⟩ := List.mem_map.1 h3
        have := k3_inj (h4.trans hk)
        subst this
        exact hq2
      obtain ⟨j, hj, hj2⟩ := (hmem k).1 h2
      exact hj (nodup_at h.me.kd hj2 hi)
theorem left_drop (es : Array MapEntry) (seen : Array Nat) (e : MapEntry) (he : e ∈ (leftOf es seen).toList) (i : Nat) : (leftOf (es.eraseIdxIfInBounds i) (seen.push e.born)).size < (leftOf es seen).size := by
  have h1 := left_shrinks es seen e he
  have h2 : (leftOf (es.eraseIdxIfInBounds i) (seen.push e.born)).size ≤ (leftOf es (seen.push e.born)).size := by
    rw [left_len, left_len, erased]
    exact ((List.eraseIdx_sublist _ _).filter _).length_le
  omega

/-- the iterator and its map, in memory -/
structure IterR (w : World) (gi g : Nat) (es : Array MapEntry) (clock : Nat) (seen : Array Nat) : Prop where
  mp : w.heap[g]? = some (.map es clock)
  it : w.heap[gi]? = some (.mapIter (some g) clock seen clock)
theorem iterR_kept {w w' : World} {gi g : Nat} {es : Array MapEntry} {clock : Nat} {seen : Array Nat} {bad : Nat → Prop} (h : IterR w gi g es clock seen) (hk : KeptB w w' bad) (h1 : ¬ bad g) (h2 : ¬ bad gi) : IterR w' gi g es clock seen :=
  ⟨(hk.block g (Array.getElem?_eq_some_iff.1 h.mp).1 h1).trans h.mp, (hk.block gi (Array.getElem?_eq_some_iff.1 h.it).1 h2).trans h.it⟩
theorem next3 {w : World} {gi g : Nat} {es : Array MapEntry} {clock : Nat} {seen : Array Nat} {K0 K : List K3} {d : K3 → Bool} (h : IterR w gi g es clock seen) (hE : IterE es clock seen K0 K d) (ty : TypeId) :
    ((leftOf es seen).size = 0 ∧ (Instr.next (.pointer (some ⟨gi, 0, none⟩)) false ty).run Try.prog w = .ok (.tuple #[.bool false]) w) ∨
    ∃ e ∈ (leftOf es seen).toList, ∃ w1 : World, Below w.heap.size w w1 ∧ w1.heap = w.heap ∧ (Instr.next (.pointer (some ⟨gi, 0, none⟩)) false ty).run Try.prog w = .ok (.tuple #[.bool true, e.key, e.val]) (putO w1 gi (.mapIter (some g) clock (seen.push e.born) clock)) := by
  have hold := hE.me.bn
  simp only [Instr.next, getObj, Sem.run_bind, Sem.run, h.it, h.mp, Result.andThen, next_test_false seen es clock clock hold (Nat.le_refl _), Bool.false_eq_true, if_false]
  unfold leftOf
  have hmem : ∀ x ∈ (Array.filter (fun e => !seen.contains e.born) es).toList, x.born < clock := fun x hx => hold x (by simp at hx ⊢; exact hx.1)
  generalize Array.filter (fun e => !seen.contains e.born) es = L at hmem ⊢
  have e1 : L.filter (fun x => decide (x.born < clock)) = L := Array.filter_eq_self.2 (fun x hx => by simpa using hmem x (by simpa using hx))
  have e2 : L.filter (fun x => decide (x.born ≥ clock)) = #[] := by
    rw [Array.filter_eq_empty_iff]
    intro x hx
    have := hmem x (by simpa using hx)
    simp
    omega
  simp only [e1, e2, Array.append_empty]
  by_cases h0 : L.size = 0
  · left
    have : L = #[] := Array.eq_empty_of_size_eq_zero h0
    subst this
    refine ⟨rfl, ?_⟩
    simp [choose, Sem.run, Question.forced]
  · right
    have hne : L.isEmpty = false := by simp [Array.isEmpty, h0]
    simp only [hne, Bool.false_eq_true, if_false, Array.empty_append, Array.size_map]
    have hch : ∃ (j : Nat) (w1 : World), j < L.size ∧ Below w.heap.size w w1 ∧ w1.heap = w.heap ∧ (choose (Question.mapNext L.size)).run Try.prog w = .ok j w1 := by
      by_cases hf : L.size ≤ 1
      · exact ⟨0, w, by omega, Below.refl _ _, rfl, by simp [choose, Sem.run, Question.forced, hf]⟩
      · exact ⟨_, w.drew, Nat.mod_lt _ (by omega), (Below.refl _ _).drew, rfl, by
          simp only [choose, Sem.run, Question.forced, decide_eq_true_eq, hf, if_false, Question.cut]
          rfl⟩
    obtain ⟨j, w1, hj, hb, hh, hrun⟩ := hch
    refine ⟨L[j], by simp, w1, hb, hh, ?_⟩
    have hit : w1.heap[gi]? = some (.mapIter (some g) clock seen clock) := by rw [hh]; exact h.it
    have hset : ∀ (o' : Obj), (setObj gi o').run Try.prog w1 = .ok () (putO w1 gi o') := fun o' => by
      simp [setObj, Sem.run, hit, putO]
    simp only [hrun, Array.getElem?_map, Array.getElem?_eq_getElem hj, Option.map_some, Sem.run_bind, hset, Result.andThen]
    rfl
theorem entry3 {w : World} {gi g : Nat} {es : Array MapEntry} {clock : Nat} {seen : Array Nat} {e : MapEntry} {K : List K3} (h : IterR w gi g es clock (seen.push e.born)) (hE : MapE es clock K) (he : e ∈ es.toList) :
    (Instr.entry (.pointer (some ⟨gi, 0, none⟩))).run Try.prog w = .ok (.tuple #[e.key, e.val]) w := by
  have hf : es.find? (·.born == e.born) = some e := by rw [← Array.find?_toList]; exact find_born e es.toList hE.nd he
  simp only [Instr.entry, getObj, Sem.run_bind, Sem.run, h.it, h.mp, Result.andThen, Array.back?_push, bne_self_eq_false, Bool.false_eq_true, if_false, hf]
  rfl
theorem delete3 {w : World} {g : Nat} {es : Array MapEntry} {clock : Nat} {K : List K3} (h : w.heap[g]? = some (.map es clock)) (hE : MapE es clock K) (k : K3) (hk : k ∈ K) (ty : TypeId) :
    ∃ i, K[i]? = some k ∧ (Builtin.delete_ #[87, 90] ty #[.map (some g), k3 k]).run Try.prog w = .ok (.tuple #[]) (putO w g (.map (es.eraseIdxIfInBounds i) clock)) := by
  obtain ⟨j, hj, hrun⟩ := (find3 k w es.toList K hE.ks hE.vs).2 hk
  refine ⟨j, hj, ?_⟩
  simp [Builtin.delete_, run_underlying under3, MapKept.run_getObj_map h, ck3, hrun, MapKept.run_setObj_map _ h, putO]
end Go.Proofs.Ytoihjhhambgpfab

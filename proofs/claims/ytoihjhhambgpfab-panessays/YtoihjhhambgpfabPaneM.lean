/- Maps whose keys are three numbers: what a lookup, an update, a delete, and a range over them do, over this seat's translation. Conditions: as named. -/
import Derived.Test.YtoihjhhambgpfabTab
import Derived.MapKept
import Derived.Laws.IdiomRangeMap
namespace Go.Proofs.Ytoihjhhambgpfab
open Go.ChangeShapes Go.WideShapes Go.ChangeAt Go.RowKit
set_option linter.unusedVariables false
set_option linter.unusedSimpArgs false

abbrev K3 : Type := Int × Int × Int
def k3 (k : K3) : Value := .agg #[.int .i64 k.1, .int .i64 k.2.1, .int .i64 k.2.2]
theorem k3_inj {a b : K3} (h : k3 a = k3 b) : a = b := by
  obtain ⟨a1, a2, a3⟩ := a
  obtain ⟨b1, b2, b3⟩ := b
  simp [k3] at h
  simp [h]
theorem underK : Try.prog.underlying 90 = some (.array 3 3) := by kernel_rfl
theorem sizeI (w : World) : (sizeOf 3).run Try.prog w = .ok 1 w := by kernel_rfl
theorem part0 (a b c : Int) (w : World) : (part 3 #[.int .i64 a, .int .i64 b, .int .i64 c] 0).run Try.prog w = .ok (.int .i64 a) w := by kernel_rfl
theorem part1 (a b c : Int) (w : World) : (part 3 #[.int .i64 a, .int .i64 b, .int .i64 c] 1).run Try.prog w = .ok (.int .i64 b) w := by kernel_rfl
theorem part2 (a b c : Int) (w : World) : (part 3 #[.int .i64 a, .int .i64 b, .int .i64 c] 2).run Try.prog w = .ok (.int .i64 c) w := by kernel_rfl
theorem eqI (d : Nat) (a b : Int) (w : World) : (Op.equalIn (d + 1) 3 (.int .i64 a) (.int .i64 b)).run Try.prog w = .ok (a == b) w := by
  have h := Try.underlying3
  simp [Op.equalIn, run_underlying h]
theorem eq3 (a b : K3) (w : World) : (Op.equal 90 (k3 a) (k3 b)).run Try.prog w = .ok (decide (a = b)) w := by
  obtain ⟨a1, a2, a3⟩ := a
  obtain ⟨b1, b2, b3⟩ := b
  have e1 := eqI 9998 a1 b1 w
  have e2 := eqI 9998 a2 b2 w
  have e3 := eqI 9998 a3 b3 w
  simp only [Nat.reduceAdd] at e1 e2 e3
  have hr : decide (((a1, a2, a3) : K3) = (b1, b2, b3)) = ((a1 == b1) && ((a2 == b2) && (a3 == b3))) := by
    simp only [Prod.mk.injEq, Bool.decide_and]
    rfl
  rw [hr]
  unfold k3 Op.equal Op.maxDepth
  simp only
  unfold Op.equalIn
  simp only [Sem.run_bind, run_underlying underK, Result.andThen_ok, sizeI]
  simp [List.range', part0, part1, part2, e1, e2, e3]
  by_cases h1 : a1 = b1 <;> by_cases h2 : a2 = b2 <;> by_cases h3 : a3 = b3 <;> simp [h1, h2, h3]
theorem under3 : Try.prog.underlying 87 = some (.map 90 4) := by kernel_rfl
theorem ck3 (a : K3) (b : Bool) (w : World) : (Instr.checkKey b 10000 90 (k3 a)).run Try.prog w = .ok () w := by
  obtain ⟨a1, a2, a3⟩ := a
  kernel_rfl

/-- the entries of such a map -/
structure MapE (es : Array MapEntry) (clock : Nat) (K : List K3) : Prop where
  ks : es.toList.map (·.key) = K.map k3
  vs : ∀ e ∈ es.toList, e.val = .bool true
  bn : ∀ x ∈ es.toList, x.born < clock
  nd : (es.toList.map (·.born)).Nodup
  kd : K.Nodup
/-- a map that has these keys -/
def MapR (w : World) (g : Nat) (K : List K3) : Prop := ∃ es clock, w.heap[g]? = some (.map es clock) ∧ MapE es clock K
theorem mapR_lt {w : World} {g : Nat} {K : List K3} (h : MapR w g K) : g < w.heap.size := by
  obtain ⟨es, clock, h, _⟩ := h
  exact (Array.getElem?_eq_some_iff.1 h).1
theorem mapR_kept {w w' : World} {g : Nat} {K : List K3} {bad : Nat → Prop} (h : MapR w g K) (hk : KeptB w w' bad) (hb : ¬ bad g) : MapR w' g K := by
  have hg := mapR_lt h
  obtain ⟨es, clock, h, hE⟩ := h
  exact ⟨es, clock, (hk.block g hg hb).trans h, hE⟩
theorem mapR_below {w w' : World} {g : Nat} {K : List K3} (h : MapR w g K) (hb : Below w.heap.size w w') : MapR w' g K := mapR_kept (bad := fun _ => False) h (keptB_of_below hb) id
def putO (w : World) (r : Nat) (o : Obj) : World := { w with heap := w.heap.setIfInBounds r o }
theorem putO_kept (w : World) (r : Nat) (o : Obj) : KeptB w (putO w r o) (fun k => k = r) := by
  refine ⟨⟨rfl, rfl, rfl, by simp [putO], fun k hk => absurd hk (by omega)⟩, fun k hk hn => ?_⟩
  simp only [putO]
  rw [Array.getElem?_setIfInBounds_ne (by omega)]
theorem putO_at (w : World) (r : Nat) (o : Obj) (h : r < w.heap.size) : (putO w r o).heap[r]? = some o := by
  simp [putO, h]

theorem asking3 (k : K3) (w : World) : ∀ (es : List MapEntry) (K : List K3) (i : Nat), es.map (·.key) = K.map k3 → (∀ e ∈ es, e.val = .bool true) →
    (k ∉ K → (Instr.findAsking 90 (k3 k) es i).run Try.prog w = .ok none w) ∧ (k ∈ K → ∃ j, K[j]? = some k ∧ (Instr.findAsking 90 (k3 k) es i).run Try.prog w = .ok (some (i + j, .bool true)) w)
  | [], [], i, _, _ => ⟨fun _ => by simp [Instr.findAsking], fun h => by simp at h⟩
  | [], _ :: _, i, h, _ => by simp at h
  | _ :: _, [], i, h, _ => by simp at h
  | e :: es, q :: K, i, h, hv => by
    simp only [List.map_cons, List.cons.injEq] at h
    obtain ⟨h1, h2⟩ := h
    have ih := asking3 k w es K (i + 1) h2 (fun e he => hv e (List.mem_cons_of_mem _ he))
    have hve := hv e (List.mem_cons_self)
    have he := eq3 k q w
    by_cases hq : k = q
    · subst hq
      refine ⟨fun h => absurd (List.mem_cons_self) h, fun _ => ⟨0, rfl, ?_⟩⟩
      simp [Instr.findAsking, h1, he, hve]
    · refine ⟨fun h => ?_, fun h => ?_⟩
      · have := ih.1 (fun h9 => h (List.mem_cons_of_mem _ h9))
        simp [Instr.findAsking, h1, he, hq, this]
      · have hm : k ∈ K := by
          rcases List.mem_cons.1 h with h | h
          · exact absurd h hq
          · exact h
        obtain ⟨j, hj, hrun⟩ := ih.2 hm
        refine ⟨j + 1, by simpa using hj, ?_⟩
        simp [Instr.findAsking, h1, he, hq, hrun]
        omega
theorem find3 (k : K3) (w : World) (es : List MapEntry) (K : List K3) (h : es.map (·.key) = K.map k3) (hv : ∀ e ∈ es, e.val = .bool true) :
    (k ∉ K → (Instr.findKey 90 (k3 k) es).run Try.prog w = .ok none w) ∧ (k ∈ K → ∃ j, K[j]? = some k ∧ (Instr.findKey 90 (k3 k) es).run Try.prog w = .ok (some (j, .bool true)) w) := by
  have ha := asking3 k w es K 0 h hv
  cases es with
  | nil =>
    cases K with
    | nil => exact ⟨fun _ => by simp [Instr.findKey, run_underlying underK, Instr.findNow], fun h => by simp at h⟩
    | cons _ _ => simp at h
  | cons e es =>
    have hn : Instr.findNow (.array 3 3) (k3 k) (e :: es) 0 = none := by
      unfold Instr.findNow k3
      rfl
    refine ⟨fun h9 => ?_, fun h9 => ?_⟩
    · have := ha.1 h9
      simp [Instr.findKey, run_underlying underK, hn, this]
    · obtain ⟨j, hj, hrun⟩ := ha.2 h9
      refine ⟨j, hj, ?_⟩
      rw [Nat.zero_add] at hrun
      simp [Instr.findKey, run_underlying underK, hn, hrun]
theorem zeroB (w : World) : (zeroValue 4).run Try.prog w = .ok (.bool false) w := by kernel_rfl
theorem lookup3 {w : World} {g : Nat} {K : List K3} (h : MapR w g K) (k : K3) : (Instr.lookup 87 (.map (some g)) (k3 k) false).run Try.prog w = .ok (.bool (decide (k ∈ K))) w := by
  obtain ⟨es, clock, hg, hE⟩ := h
  have hf := find3 k w es.toList K hE.ks hE.vs
  by_cases hk : k ∈ K
  · obtain ⟨j, hj, hrun⟩ := hf.2 hk
    simp [Instr.lookup, run_underlying under3, MapKept.run_getObj_map hg, ck3, hrun, hk]
  · have hrun := hf.1 hk
    simp [Instr.lookup, run_underlying under3, MapKept.run_getObj_map hg, ck3, hrun, hk, zeroB]
theorem update3 {w : World} {g : Nat} {K : List K3} (h : MapR w g K) (k : K3) (hk : k ∉ K) : ∃ w', (Instr.mapUpdate 87 (.map (some g)) (k3 k) (.bool true)).run Try.prog w = .ok () w' ∧ MapR w' g (K ++ [k]) ∧ KeptB w w' (fun q => q = g) := by
  have hlt := mapR_lt h
  obtain ⟨es, clock, hg, hE⟩ := h
  have hrun := (find3 k w es.toList K hE.ks hE.vs).1 hk
  refine ⟨putO w g (.map (es.push { key := k3 k, val := .bool true, born := clock }) (clock + 1)), ?_, ⟨_, _, putO_at _ _ _ hlt, ?_⟩, putO_kept _ _ _⟩
  · simp [Instr.mapUpdate, run_underlying under3, MapKept.run_getObj_map hg, ck3, hrun, MapKept.run_setObj_map _ hg, putO]
  · refine ⟨by simp [hE.ks], ?_, ?_, ?_, ?_⟩
    · intro e he
      simp only [Array.toList_push, List.mem_append, List.mem_singleton] at he
      rcases he with he | rfl
      · exact hE.vs e he
      · rfl
    · intro e he
      simp only [Array.toList_push, List.mem_append, List.mem_singleton] at he
      rcases he with he | rfl
      · exact Nat.lt_succ_of_lt (hE.bn e he)
      · exact Nat.lt_succ_self _
    · simp only [Array.toList_push, List.map_append, List.map_cons, List.map_nil]
      rw [List.nodup_append]
      refine ⟨hE.nd, by simp, fun a ha b hb => ?_⟩
      obtain ⟨e, he, rfl⟩ := List.mem_map.1 ha
      have h1 := hE.bn e he
      have h2 := List.mem_singleton.1 hb
      omega
    · rw [List.nodup_append]
      refine ⟨hE.kd, by simp, fun a ha b hb => ?_⟩
      rw [List.mem_singleton.1 hb]
      exact fun e => hk (e ▸ ha)
end Go.Proofs.Ytoihjhhambgpfab

/- The contracts of source.New, Parts, has and Get, over this seat's translation. Conditions: as named. -/
import Derived.Test.YtepfpmagppckeabTab
namespace Go.Proofs.Ytepfpmagppckeab
open Go.ChangeShapes Go.WideShapes Go.ChangeAt Go.RowKit
set_option linter.unusedVariables false
set_option linter.unusedSimpArgs false

theorem infoEs : (Try.prog.info? 76).map (fun i => (i.zero, i.size, i.bytes)) = some (some (.slice none 0 0), 1, 24) := by kernel_rfl
theorem infoE : (Try.prog.info? 71).map (fun i => (i.zero, i.size, i.bytes)) = some (some (.agg #[.int .i64 0, .int .i64 0, .int .i64 0, .int .i64 0, .int .i64 0, .int .i64 0, .int .i64 0]), 7, 56) := by kernel_rfl

def nilL (n : Nat) : List Value := List.replicate n (.slice none 0 0)
def noEv (n : Nat) : List (List Ev) := List.replicate n []
theorem nil_get {n i : Nat} {v : Value} (h : (nilL n)[i]? = some v) : v = .slice none 0 0 := by
  have := List.mem_of_getElem? h
  exact List.eq_of_mem_replicate this
theorem no_get {n i : Nat} {r : List Ev} (h : (noEv n)[i]? = some r) : r = [] := by
  have := List.mem_of_getElem? h
  exact List.eq_of_mem_replicate this
/-- a fresh list of empty lists -/
theorem tab_new {w : World} {B g n : Nat} (h : BlkAt w g (nilL n)) (hB : B ≤ g) : Tab B w g (nilL n) (noEv n) :=
  ⟨h, by simp [nilL, noEv], fun i v r hv hr => by rw [nil_get hv, no_get hr]; exact World.ownsRow_nil _ _ _ _, fun i j v u _ hv _ => by rw [nil_get hv]; exact .inl rfl, fun i v hv => by rw [nil_get hv]; simp [Value.ownBlock], hB⟩
theorem owns_thawG {w : World} {base g n cap size : Nat} {e : TypeId} {xs : List Value} (h : w.ownsRow base e size (.slice (some ⟨g, 0, none⟩) n cap) n xs) (o : Nat) : w.frozen? ⟨g, o, none⟩ = false := by
  obtain ⟨h0, h1⟩ := h
  rcases h1 with ⟨e1, -⟩ | ⟨g', cap', cur, e1, hb, hg, hle, hm, hs, ht⟩
  · cases e1
  · simp only [Value.slice.injEq, Option.some.injEq, Addr.mk.injEq, and_true, true_and] at e1
    obtain ⟨rfl, rfl⟩ := e1
    simp [World.frozen?, hg]
theorem blk_of_owns {w : World} {base n g cap : Nat} {e : TypeId} {xs : List Value} (h : w.ownsRow base e 1 (.slice (some ⟨g, 0, none⟩) n cap) n xs) : BlkAt w g xs := by
  have hl : xs.length = n := by have := h.1; omega
  refine ⟨fun j hj => h.cellAt j (by omega), fun o => owns_thawG h o, ?_⟩
  obtain ⟨-, h1⟩ := h
  rcases h1 with ⟨e1, -⟩ | ⟨g', cap', cur, e1, hb, hg, -⟩
  · cases e1
  · simp only [Value.slice.injEq, Option.some.injEq, Addr.mk.injEq, and_true, true_and] at e1
    obtain ⟨rfl, rfl⟩ := e1
    exact (Array.getElem?_eq_some_iff.1 hg).1

theorem snew_bad (n : Int) (w : World) (h : n < 1 ∨ 3 < n) :
    Calls Try.prog 29 #[.int .i64 n] w fun e w' => e = .returned (.tuple #[.pointer none, .iface 109 (.int .i64 1)]) ∧ Below w.heap.size w w' := by
  by_cases h1 : n < 1
  · go_enter Try.func29, Try.ntmps29
    go_wp2_with fail
    go_ret2
    exact ⟨rfl, Below.refl _ _⟩
  · have h2 : 3 < n := by omega
    have d1 : decide (n < 1) = false := by simp; omega
    go_enter Try.func29, Try.ntmps29
    go_wp2_with fail
    go_ret2
    exact ⟨rfl, Below.refl _ _⟩

set_option maxRecDepth 100000 in
theorem snew_any (n : Nat) (w : World) (h1 : 1 ≤ n) (h3 : n ≤ 3) :
    Calls Try.prog 29 #[.int .i64 n] w fun e w' => ∃ gs, w.heap.size < gs ∧ e = .returned (.tuple #[.pointer (some ⟨gs, 0, none⟩), .nilIface]) ∧ BlkAt w' gs [.slice (some ⟨w.heap.size, 0, none⟩) n n] ∧ BlkAt w' w.heap.size (nilL n) ∧ Below w.heap.size w w' := by
  obtain ⟨i0, hi, hz0, hz1, hz2⟩ := info_parts infoEs
  have d1 : decide ((n : Int) < 1) = false := by simp; omega
  have d2 : decide (3 < (n : Int)) = false := by simp; omega
  go_enter Try.func29, Try.ntmps29
  go_wp2_with (at_make; go_must (refine wpList_make_full _ rfl _ _ 69 rfl w.heap.size 76 i0 (.slice none 0 0) 1 Try.underlying69 hi hz0 hz1 .i64 .i64 _ _ n rfl rfl rfl rfl (by rw [hz2]; omega) (by show _ ≤ 2 ^ 63 - 1; omega) (by simp) ?_))
  intro w1 ho hg
  have hM : (madeCells #[Value.slice none 0 0] n).toList = nilL n := by
    rcases (by omega : n = 1 ∨ n = 2 ∨ n = 3) with rfl | rfl | rfl <;> kernel_rfl
  rw [hM] at ho
  have HB : Hid (Below w.heap.size w w1) := (Below.refl _ _).grown hg (Nat.le_refl _) (fun k hk => by cases hk)
  have HK := hidE (blk_of_owns ho)
  clear ho hg hM
  go_wp2_with fail
  go_ret2
  have hA := (Below.refl w1.heap.size w1).alloc (Nat.le_refl _) (.cells #[.slice (some ⟨w.heap.size, 0, none⟩) n n] 115)
  refine ⟨w1.heap.size, HK.out.lt, rfl, ⟨fun j hj => ?_, fun o => by go_simp, by simp⟩, blk_below HK.out hA HK.out.lt, (nxt HB hA).out⟩
  have : j = 0 := by simp at hj; omega
  subst this
  go_simp

theorem parts_any (gs go n : Nat) (w : World) (h : BlkAt w gs [.slice (some ⟨go, 0, none⟩) n n]) :
    Calls Try.prog 30 #[.pointer (some ⟨gs, 0, none⟩)] w fun e w' => e = .returned (.int .i64 n) ∧ w' = w := by
  have c0 : w.cell? ⟨gs, 0, none⟩ = some (.slice (some ⟨go, 0, none⟩) n n) := h.c 0 (by simp)
  go_enter Try.func30, Try.ntmps30
  go_wp2_with fail
  go_ret
  exact ⟨rfl, rfl⟩

theorem shas_any (gs go n : Nat) (p : Int) (w : World) (h : BlkAt w gs [.slice (some ⟨go, 0, none⟩) n n]) :
    Calls Try.prog 55 #[.pointer (some ⟨gs, 0, none⟩), .int .i64 p] w fun e w' => e = .returned (.bool (decide (0 ≤ p) && decide (p < (n : Int)))) ∧ w' = w := by
  have PA := hidE (parts_any gs go n w h)
  by_cases h1 : 0 ≤ p
  · have d1 : decide (0 ≤ p) = true := by simp [h1]
    rw [d1]
    generalize hr : decide (p < (n : Int)) = r
    go_enter Try.func55, Try.ntmps55
    go_wp2_with fail
    refine PA.out.mono ?_
    rintro e w1 ⟨rfl, rfl⟩
    go_wp2_with fail
    go_ret
    exact ⟨rfl, rfl⟩
  · have d1 : decide (0 ≤ p) = false := by simp; omega
    rw [d1]
    go_enter Try.func55, Try.ntmps55
    go_wp2_with fail
    go_ret
    exact ⟨rfl, rfl⟩

/-- what is there of a part, at a place -/
def getM (M : List (List Ev)) (p n : Int) : Option Ev := if 0 ≤ p ∧ 0 ≤ n then (M[p.toNat]?).bind (·[n.toNat]?) else none
def zeroEv : Ev := ⟨0, 0, 0, 0, 0, 0, 0⟩
def gotV : Option Ev → Value
  | some e => .tuple #[aggV e, .bool true]
  | none => .tuple #[aggV zeroEv, .bool false]

set_option maxRecDepth 100000 in
theorem sget_any (gs go P : Nat) (vs : List Value) (M : List (List Ev)) (p n : Int) (w : World) (hP : P ≤ 1000) (hM : M.length = P) (hl : ∀ r ∈ M, r.length ≤ 1000) (h : BlkAt w gs [.slice (some ⟨go, 0, none⟩) P P]) (ht : TabR w go vs M) :
    Calls Try.prog 34 #[.pointer (some ⟨gs, 0, none⟩), .int .i64 p, .int .i64 n] w fun e w' => e = .returned (gotV (getM M p n)) ∧ Below w.heap.size w w' := by
  have hA := (Below.refl w.heap.size w).alloc (Nat.le_refl _) (.cells #[.int .i64 0, .int .i64 0, .int .i64 0, .int .i64 0, .int .i64 0, .int .i64 0, .int .i64 0] 71)
  have HH := hidE (shas_any gs go P p _ (blk_below h hA h.lt))
  have c0 : (w.alloc (.cells #[.int .i64 0, .int .i64 0, .int .i64 0, .int .i64 0, .int .i64 0, .int .i64 0, .int .i64 0] 71)).cell? ⟨gs, 0, none⟩ = some (.slice (some ⟨go, 0, none⟩) P P) := (blk_below h hA h.lt).c 0 (by simp)
  have HT := hidE (tabR_below ht hA)
  have HA := hidE hA
  clear hA ht h
  by_cases h1 : 0 ≤ p
  case neg =>
    have eg : getM M p n = none := by unfold getM; rw [if_neg (by omega)]
    rw [eg]
    have d1 : decide (0 ≤ p) = false := by simp; omega
    rw [d1] at HH
    simp only [Bool.false_and] at HH
    go_enter Try.func34, Try.ntmps34
    go_wp2_with fail
    refine HH.out.mono ?_
    rintro e w1 ⟨rfl, rfl⟩
    go_wp2_with fail
    refine bodyPost_ret (v := .tuple #[.agg #[.int .i64 0, .int .i64 0, .int .i64 0, .int .i64 0, .int .i64 0, .int .i64 0, .int .i64 0], .bool false]) (by simp [results, Try.results34, go_sem]) rfl ⟨rfl, ?_⟩
    repeat (first | exact HA.out | refine Below.setCell ?_ (by first | (simp; done) | (simp; omega)) _)
  have d1 : decide (0 ≤ p) = true := by simp [h1]
  rw [d1] at HH
  simp only [Bool.true_and] at HH
  by_cases h2 : p < (P : Int)
  case neg =>
    have eg : getM M p n = none := by
      unfold getM
      split
      · rw [List.getElem?_eq_none (by omega)]; rfl
      · rfl
    rw [eg]
    have d2 : decide (p < (P : Int)) = false := by simp; omega
    rw [d2] at HH
    go_enter Try.func34, Try.ntmps34
    go_wp2_with fail
    refine HH.out.mono ?_
    rintro e w1 ⟨rfl, rfl⟩
    go_wp2_with fail
    refine bodyPost_ret (v := .tuple #[.agg #[.int .i64 0, .int .i64 0, .int .i64 0, .int .i64 0, .int .i64 0, .int .i64 0, .int .i64 0], .bool false]) (by simp [results, Try.results34, go_sem]) rfl ⟨rfl, ?_⟩
    repeat (first | exact HA.out | refine Below.setCell ?_ (by first | (simp; done) | (simp; omega)) _)
  have d2 : decide (p < (P : Int)) = true := by simp [h2]
  rw [d2] at HH
  by_cases h3 : 0 ≤ n
  case neg =>
    have eg : getM M p n = none := by unfold getM; rw [if_neg (by omega)]
    rw [eg]
    have d3 : decide (n < 0) = true := by simp; omega
    go_enter Try.func34, Try.ntmps34
    go_wp2_with fail
    refine HH.out.mono ?_
    rintro e w1 ⟨rfl, rfl⟩
    go_wp2_with fail
    refine bodyPost_ret (v := .tuple #[.agg #[.int .i64 0, .int .i64 0, .int .i64 0, .int .i64 0, .int .i64 0, .int .i64 0, .int .i64 0], .bool false]) (by simp [results, Try.results34, go_sem]) rfl ⟨rfl, ?_⟩
    repeat (first | exact HA.out | refine Below.setCell ?_ (by first | (simp; done) | (simp; omega)) _)
  have d3 : decide (n < 0) = false := by simp; omega
  obtain ⟨p', rfl⟩ : ∃ p' : Nat, p = (p' : Int) := ⟨p.toNat, by omega⟩
  obtain ⟨n', rfl⟩ : ∃ n' : Nat, n = (n' : Int) := ⟨n.toNat, by omega⟩
  have hpM : p' < M.length := by omega
  have hpv : p' < vs.length := by rw [HT.out.n1]; exact hpM
  have cv := HT.out.c p' hpv
  rw [List.getElem?_eq_getElem hpv] at cv
  have RW := hidE (HT.out.rows p' vs[p'] M[p'] (List.getElem?_eq_getElem hpv) (List.getElem?_eq_getElem hpM))
  have lr : M[p'].length ≤ 1000 := hl M[p'] (List.getElem_mem hpM)
  have eg : getM M (p' : Int) (n' : Int) = M[p'][n']? := by
    unfold getM
    rw [if_pos (by omega), Int.toNat_natCast, Int.toNat_natCast, List.getElem?_eq_getElem hpM]
    rfl
  rw [eg]
  have hlo := HT.out.lt
  clear eg HT
  generalize vs[p'] = v at *
  generalize M[p'] = r at *
  obtain ⟨ao, cap, rfl⟩ := rowG_shape RW.out
  by_cases h4 : n' < r.length
  case neg =>
    rw [List.getElem?_eq_none (by omega)]
    have d4 : decide ((r.length : Int) ≤ (n' : Int)) = true := by simp; omega
    go_enter Try.func34, Try.ntmps34
    go_wp2_with fail
    refine HH.out.mono ?_
    rintro e w1 ⟨rfl, rfl⟩
    go_wp2_with fail
    refine bodyPost_ret (v := .tuple #[.agg #[.int .i64 0, .int .i64 0, .int .i64 0, .int .i64 0, .int .i64 0, .int .i64 0, .int .i64 0], .bool false]) (by simp [results, Try.results34, go_sem]) rfl ⟨rfl, ?_⟩
    repeat (first | exact HA.out | refine Below.setCell ?_ (by first | (simp; done) | (simp; omega)) _)
  have d4 : decide ((r.length : Int) ≤ (n' : Int)) = false := by simp; omega
  rw [List.getElem?_eq_getElem h4]
  obtain ⟨g, off, rfl, hcell, q1, q2, q3⟩ := rowOf_val cellsE_len RW.out n' h4
  generalize r[n'] = ev at *
  obtain ⟨t, k1, k2, a1, a2, b1, b2⟩ := ev
  have e0 := hcell 0 (by omega)
  have e1 := hcell 1 (by omega)
  have e2 := hcell 2 (by omega)
  have e3 := hcell 3 (by omega)
  have e4 := hcell 4 (by omega)
  have e5 := hcell 5 (by omega)
  have e6 := hcell 6 (by omega)
  simp only [cellsE, List.getElem?_cons_zero, List.getElem?_cons_succ, Nat.add_zero] at e0 e1 e2 e3 e4 e5 e6
  simp only [← Nat.add_assoc] at e0 e1 e2 e3 e4 e5 e6
  clear hcell
  unfold maxLen at q2
  go_enter Try.func34, Try.ntmps34
  go_wp2_with fail
  refine HH.out.mono ?_
  rintro e w1 ⟨rfl, rfl⟩
  go_wp2_with fail
  exact bodyPost_ret (v := .tuple #[.agg #[.int .i64 t, .int .i64 k1, .int .i64 k2, .int .i64 a1, .int .i64 a2, .int .i64 b1, .int .i64 b2], .bool true]) (by simp [results, Try.results34, go_sem]) rfl ⟨rfl, (Below.refl _ _).alloc (Nat.le_refl _) _⟩
end Go.Proofs.Ytepfpmagppckeab

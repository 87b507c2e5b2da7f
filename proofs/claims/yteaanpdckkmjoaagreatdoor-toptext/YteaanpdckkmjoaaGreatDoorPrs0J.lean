/- Several texts in one, each with its own head. What is proved: what the parts say. Conditions: theirs. -/
import Derived.Test.YteaanpdckkmjoaaGreatDoorLex3J
import Derived.Test.YteaanpdckkmjoaaGreatDoorExpr8J
import Derived.Test.YteaanpdckkmjoaaGreatDoorHeldJ
import Derived.MapKept
import Derived.Test.YteaanpdckkmjoaaGreatDoorLex1J
import Derived.Laws.IdiomCopy
import Derived.Laws.IdiomStrings
import Derived.Lib.LazyBuf
import Derived.Deep.MidRow
/- A question's parser in memory: its words, its signs (a map whose keys are texts), how deep it is, what is wrong first. Conditions: as named. -/
namespace Go.Proofs.YteaanpdckkmjoaaGreatDoor
open Go.ChangeShapes Go.WideShapes Go.ChangeAt Go.RowKit
set_option linter.unusedVariables false
set_option linter.unusedSimpArgs false

/-! Maps of signs by texts. -/
def sgV (s : Sg) : Value := .agg #[.int .i64 s.rank, .int .i64 s.op, .bool s.turned, .bool s.denied]
def sg0 : Sg := ⟨0, 0, false, false⟩
def MapL (w : World) (g : Nat) (L : List (ByteArray × Sg)) : Prop := ∃ es clock, w.heap[g]? = some (.map es clock) ∧ es.toList.map (fun e => (e.key, e.val)) = L.map (fun p => (Value.string p.1, sgV p.2))
theorem mapL_lt {w : World} {g : Nat} {L : List (ByteArray × Sg)} (h : MapL w g L) : g < w.heap.size := by
  obtain ⟨es, clock, h, _⟩ := h
  exact (Array.getElem?_eq_some_iff.1 h).1
theorem mapL_kept {w w' : World} {g : Nat} {L : List (ByteArray × Sg)} {bad : Nat → Prop} (h : MapL w g L) (hk : KeptB w w' bad) (hb : ¬ bad g) : MapL w' g L := by
  have hg := mapL_lt h
  obtain ⟨es, clock, h, hE⟩ := h
  exact ⟨es, clock, (hk.block g hg hb).trans h, hE⟩
theorem underSg : Tryz.prog.underlying 60 = some (.map 9 96) := by kernel_rfl
theorem ckS (b : Bool) (k : ByteArray) (w : World) : (Instr.checkKey b 10000 9 (.string k)).run Tryz.prog w = .ok () w := by kernel_rfl
theorem zeroSg (w : World) : (zeroValue 96).run Tryz.prog w = .ok (sgV sg0) w := by kernel_rfl
theorem ba_same (a : ByteArray) : (a == a) = true := by
  show (a.data == a.data) = true
  simp
theorem ba_other {a b : ByteArray} (h : a ≠ b) : (a == b) = false := by
  have e : (a == b) = (a.data == b.data) := rfl
  rw [e, beq_eq_false_iff_ne]
  intro hd
  apply h
  cases a
  cases b
  simp at hd
  rw [hd]
theorem findS (k : ByteArray) : ∀ (es : List MapEntry) (L : List (ByteArray × Sg)) (i : Nat), es.map (fun e => (e.key, e.val)) = L.map (fun p => (Value.string p.1, sgV p.2)) →
    (sgIn L k = none → Instr.findNow .string (.string k) es i = some none) ∧ (∀ s, sgIn L k = some s → ∃ j, Instr.findNow .string (.string k) es i = some (some (j, sgV s)))
  | [], [], i, _ => ⟨fun _ => rfl, fun s h => by simp [sgIn] at h⟩
  | [], _ :: _, i, h => by simp at h
  | _ :: _, [], i, h => by simp at h
  | e :: es, p :: L, i, h => by
    simp only [List.map_cons, List.cons.injEq, Prod.mk.injEq] at h
    obtain ⟨⟨h1, h2⟩, h3⟩ := h
    have ih := findS k es L (i + 1) h3
    by_cases hq : k = p.1
    · refine ⟨fun h => ?_, fun s h => ?_⟩
      · simp only [sgIn, if_pos hq] at h
        cases h
      · simp only [sgIn, if_pos hq] at h
        cases h
        refine ⟨i, ?_⟩
        simp [Instr.findNow, Instr.sameNow, h1, h2, hq, ba_same]
    · have hne : (k == p.1) = false := ba_other hq
      refine ⟨fun h => ?_, fun s h => ?_⟩
      · simp only [sgIn, if_neg hq] at h
        simp [Instr.findNow, Instr.sameNow, h1, hne, ih.1 h]
      · simp only [sgIn, if_neg hq] at h
        obtain ⟨j, hj⟩ := ih.2 s h
        exact ⟨j, by simp [Instr.findNow, Instr.sameNow, h1, hne, hj]⟩
theorem underStr : Tryz.prog.underlying 9 = some .string := Tryz.underlying9
theorem lookS {w : World} {g : Nat} {L : List (ByteArray × Sg)} (h : MapL w g L) (k : ByteArray) : (Instr.lookup 60 (.map (some g)) (.string k) true).run Tryz.prog w = .ok (.tuple #[sgV ((sgIn L k).getD sg0), .bool (sgIn L k).isSome]) w := by
  obtain ⟨es, clock, hg, hE⟩ := h
  have hf := findS k es.toList L 0 hE
  cases hk : sgIn L k with
  | none =>
    have hrun := hf.1 hk
    simp [Instr.lookup, Instr.findKey, run_underlying underSg, run_underlying underStr, MapKept.run_getObj_map hg, ckS, hrun, zeroSg]
    rfl
  | some s =>
    obtain ⟨j, hrun⟩ := hf.2 s hk
    simp [Instr.lookup, Instr.findKey, run_underlying underSg, run_underlying underStr, MapKept.run_getObj_map hg, ckS, hrun]
def putM (w : World) (r : Nat) (o : Obj) : World := { w with heap := w.heap.setIfInBounds r o }
theorem putM_kept (w : World) (r : Nat) (o : Obj) : KeptB w (putM w r o) (fun k => k = r) := by
  refine ⟨⟨rfl, rfl, rfl, by simp [putM], fun k hk => absurd hk (by omega)⟩, fun k hk hn => ?_⟩
  simp only [putM]
  rw [Array.getElem?_setIfInBounds_ne (by omega)]
theorem putM_at (w : World) (r : Nat) (o : Obj) (h : r < w.heap.size) : (putM w r o).heap[r]? = some o := by
  simp [putM, h]
theorem insS {w : World} {g : Nat} {L : List (ByteArray × Sg)} (h : MapL w g L) (k : ByteArray) (s : Sg) (hk : sgIn L k = none) : ∃ w', (Instr.mapUpdate 60 (.map (some g)) (.string k) (sgV s)).run Tryz.prog w = .ok () w' ∧ MapL w' g (L ++ [(k, s)]) ∧ KeptB w w' (fun q => q = g) := by
  have hlt := mapL_lt h
  obtain ⟨es, clock, hg, hE⟩ := h
  have hrun := (findS k es.toList L 0 hE).1 hk
  refine ⟨putM w g (.map (es.push { key := .string k, val := sgV s, born := clock }) (clock + 1)), ?_, ⟨_, _, putM_at _ _ _ hlt, ?_⟩, putM_kept _ _ _⟩
  · simp [Instr.mapUpdate, Instr.findKey, run_underlying underSg, run_underlying underStr, MapKept.run_getObj_map hg, ckS, hrun, MapKept.run_setObj_map _ hg, putM]
  · simp [hE]
theorem mapL_new (w : World) : MapL (w.alloc (.map #[] 0)) w.heap.size [] := ⟨#[], 0, heap_alloc_new w _, rfl⟩

/-! The parser. -/
theorem rowG_kept {w w' : World} {v : Value} {size n : Nat} {xs : List Value} {bad : Nat → Prop} (h : RowG w v size n xs) (hk : KeptB w w' bad) (hb : ∀ g off m c, v = .slice (some ⟨g, off, none⟩) m c → ¬ bad g) : RowG w' v size n xs := by
  obtain ⟨h0, h⟩ := h
  refine ⟨h0, ?_⟩
  rcases h with h | ⟨g, off, cap, h1, h2, h3, h4, h5⟩
  · exact .inl h
  · exact .inr ⟨g, off, cap, h1, h2, h3, Nat.lt_of_lt_of_le h4 hk.b0.size, fun i hi => by rw [kept_cell hk (off + i) h4 (hb g off n cap h1)]; exact h5 i hi⟩
structure PS (w : World) (gp gm : Nat) (wv : Value) (ws : Ws) (d e : Int) : Prop where
  bd : BlkAt w gp [wv, .map (some gm), .int .i64 d, errC e]
  row : RowG w wv 1 ws.length (ws.map Value.string)
  far : ∀ g off m c, wv = .slice (some ⟨g, off, none⟩) m c → g < gp
  sg : MapL w gm sgL
  lt : gm < gp
  e0 : e ≠ 0 → ws = []
  few : ws.length ≤ 100
theorem PS.ne {w : World} {gp gm : Nat} {wv : Value} {ws : Ws} {d e : Int} (h : PS w gp gm wv ws d e) : gm ≠ gp := Nat.ne_of_lt h.lt
/-- what turns lies behind it -/
theorem ps_far {w w' : World} {gp gm : Nat} {wv : Value} {ws : Ws} {d e : Int} {bad : Nat → Prop} (h : PS w gp gm wv ws d e) (hk : KeptB w w' bad) (hb : ∀ k, bad k → gp < k) : PS w' gp gm wv ws d e :=
  ⟨blk_kept h.bd hk (fun e9 => by have := hb _ e9; omega), rowG_kept h.row hk (fun g off m c e9 e8 => by have := hb _ e8; have := h.far g off m c e9; omega), h.far, mapL_kept h.sg hk (fun e9 => by have := hb _ e9; have := h.lt; omega), h.lt, h.e0, h.few⟩
theorem ps_kept {w w' : World} {gp gm : Nat} {wv : Value} {ws : Ws} {d e : Int} (h : PS w gp gm wv ws d e) (hb : Below w.heap.size w w') : PS w' gp gm wv ws d e :=
  ⟨blk_below h.bd hb h.bd.lt, rowG_below h.row hb, h.far, mapL_kept (bad := fun _ => False) h.sg (keptB_of_below hb) id, h.lt, h.e0, h.few⟩
/-- a store into the parser's variable -/
theorem ps_set {w : World} {gp gm : Nat} {wv : Value} {ws : Ws} {d e : Int} (h : PS w gp gm wv ws d e) (k : Nat) (u : Value) {wv' : Value} {ws' : Ws} {d' e' : Int}
    (hb : BlkAt (w.setCell ⟨gp, k, none⟩ u) gp [wv', .map (some gm), .int .i64 d', errC e']) (hr : RowG w wv' 1 ws'.length (ws'.map Value.string)) (hf : ∀ g off m c, wv' = .slice (some ⟨g, off, none⟩) m c → g < gp) (he : e' ≠ 0 → ws' = []) (hl : ws'.length ≤ 100) :
    PS (w.setCell ⟨gp, k, none⟩ u) gp gm wv' ws' d' e' ∧ KeptB w (w.setCell ⟨gp, k, none⟩ u) (fun q => q = gp) := by
  have ks : KeptB w (w.setCell ⟨gp, k, none⟩ u) (fun q => q = gp) := keptB_set (keptB_of_below (bad := fun q => q = gp) (Below.refl w.heap.size w)) rfl k u
  exact ⟨⟨hb, rowG_kept hr ks (fun g off m c e9 e8 => by have := hf g off m c e9; omega), hf, mapL_kept h.sg ks h.ne, h.lt, he, hl⟩, ks⟩
theorem row_tail {w : World} {v : Value} {x : ByteArray} {ws : Ws} (h : RowG w v 1 (x :: ws).length ((x :: ws).map Value.string)) : ∃ g off cap, v = .slice (some ⟨g, off, none⟩) (ws.length + 1) cap ∧ ws.length + 1 ≤ cap ∧ cap ≤ maxLen ∧ g < w.heap.size ∧ w.cell? ⟨g, off, none⟩ = some (.string x) ∧ RowG w (.slice (some ⟨g, off + 1, none⟩) ws.length (cap - 1)) 1 ws.length (ws.map Value.string) := by
  obtain ⟨h0, h⟩ := h
  rcases h with ⟨-, h⟩ | ⟨g, off, cap, h1, h2, h3, h4, h5⟩
  · simp at h
  · simp only [List.length_cons] at h1 h2
    refine ⟨g, off, cap, h1, h2, h3, h4, ?_, by simp, .inr ⟨g, off + 1, cap - 1, rfl, by omega, by omega, h4, fun j hj => ?_⟩⟩
    · have := h5 0 (by simp)
      simpa using this
    · have := h5 (j + 1) (by simp; omega)
      rw [show off + 1 + j = off + (j + 1) from by omega, this]
      simp
end Go.Proofs.YteaanpdckkmjoaaGreatDoor
/- The contracts of a parser's next, skip, take, must and fail, over this seat's translation. Conditions: as named. -/
namespace Go.Proofs.YteaanpdckkmjoaaGreatDoor
open Go.ChangeShapes Go.WideShapes Go.ChangeAt Go.RowKit
set_option linter.unusedVariables false
set_option linter.unusedSimpArgs false

theorem tl_same (a : ByteArray) : (a.toList == a.toList) = true := by simp
theorem tl_other {a b : ByteArray} (h : a ≠ b) : (a.toList == b.toList) = false := by
  rw [beq_eq_false_iff_ne]
  intro e
  apply h
  rw [Lib.toList_data, Lib.toList_data] at e
  cases a
  cases b
  simp at e
  rw [e]
/-- the first error stays -/
def errN (e c : Int) : Int := if e = 0 then c else e
theorem errN_0 (c : Int) : errN 0 c = c := rfl
theorem errN_ne {e : Int} (h : e ≠ 0) (c : Int) : errN e c = e := by unfold errN; rw [if_neg h]
def hdW (ws : Ws) : ByteArray := match ws with
  | [] => ⟨#[]⟩
  | x :: _ => x
set_option maxRecDepth 100000 in
theorem next_any (gp gm : Nat) (wv : Value) (ws : Ws) (d e : Int) (w : World) (h : PS w gp gm wv ws d e) :
    Calls Tryz.prog 78 #[.pointer (some ⟨gp, 0, none⟩)] w fun r w' => r = .returned (.string (hdW ws)) ∧ Below w.heap.size w w' := by
  have c0 : w.cell? ⟨gp, 0, none⟩ = some wv := h.bd.c 0 (by simp)
  cases ws with
  | nil =>
    obtain ⟨ao, cap, rfl⟩ := rowG_shape h.row
    clear h
    go_enter Tryz.func78, Tryz.ntmps78
    go_wp2_with fail
    go_ret
    exact ⟨rfl, Below.refl _ _⟩
  | cons x ws =>
    obtain ⟨g, off, cap, rfl, h1, h2, h3, h4, h5⟩ := row_tail h.row
    have hf := h.few
    have hn : (((ws.length : Int) + 1) == 0) = false := by simp; omega
    have hn2 : (0 : Int) < (ws.length : Int) + 1 := by omega
    unfold maxLen at h2
    clear h h5
    go_enter Tryz.func78, Tryz.ntmps78
    go_wp2_with fail
    go_ret
    exact ⟨rfl, Below.refl _ _⟩
set_option maxRecDepth 100000 in
theorem skip_any (gp gm : Nat) (wv : Value) (x : ByteArray) (ws : Ws) (d e : Int) (w : World) (h : PS w gp gm wv (x :: ws) d e) :
    Calls Tryz.prog 79 #[.pointer (some ⟨gp, 0, none⟩)] w fun r w' => r = .returned (.tuple #[]) ∧ KeptB w w' (fun q => q = gp) ∧ ∃ wv', PS w' gp gm wv' ws d e := by
  have c0 : w.cell? ⟨gp, 0, none⟩ = some wv := h.bd.c 0 (by simp)
  obtain ⟨g, off, cap, rfl, h1, h2, h3, h4, h5⟩ := row_tail h.row
  have f0 := h.bd.fz 0
  have hg : g < gp := h.far g off _ cap rfl
  have he : e = 0 := Classical.byContradiction fun he => by have := h.e0 he; cases this
  have hle : (1 : Int) ≤ (ws.length : Int) + 1 := by omega
  have hcp : (ws.length : Int) + 1 ≤ (cap : Int) := by omega
  have far2 : ∀ (o m c : Nat) g' off' m' c', Value.slice (some ⟨g, o, none⟩) m c = .slice (some ⟨g', off', none⟩) m' c' → g' < gp := fun o m c g' off' m' c' hq => by
    simp only [Value.slice.injEq, Option.some.injEq, Addr.mk.injEq] at hq
    rw [← hq.1.1]
    exact hg
  have hfw : ws.length ≤ 100 := by have := h.few; simp at this; omega
  by_cases hc1 : cap = 1
  · have hw0 : ws = [] := List.eq_nil_of_length_eq_zero (by omega)
    subst hc1 hw0
    have B0 := blk_set h.bd 0 (.slice (some ⟨g, off, none⟩) 0 0) (by simp)
    have PS0 := hidE (ps_set h 0 (.slice (some ⟨g, off, none⟩) 0 0) (ws' := []) (d' := d) (e' := e) (by simpa using B0) ⟨rfl, .inl ⟨⟨_, _, rfl⟩, rfl⟩⟩ (far2 off 0 0) (fun h9 => absurd he h9) (by simp))
    clear h h5 B0 far2
    go_enter Tryz.func79, Tryz.ntmps79
    go_wp2_with fail
    refine ⟨rfl, _, by simp [results], rfl, PS0.out.2, _, PS0.out.1⟩
  · have B0 := blk_set h.bd 0 (.slice (some ⟨g, off + 1, none⟩) ws.length (cap - 1)) (by simp)
    have PS0 := hidE (ps_set h 0 (.slice (some ⟨g, off + 1, none⟩) ws.length (cap - 1)) (d' := d) (e' := e) (by simpa using B0) h5 (far2 _ _ _) (fun h9 => absurd he h9) hfw)
    unfold maxLen at h2
    have hc2 : ¬ (cap : Int) = 1 := by omega
    have hc3 : 0 < cap - 1 := by omega
    clear h h5 B0 far2
    go_enter Tryz.func79, Tryz.ntmps79
    go_wp2_with fail
    refine ⟨rfl, _, by simp [results], rfl, PS0.out.2, _, PS0.out.1⟩
set_option maxRecDepth 100000 in
/-- what take answers: was it that word? -/
def TakeR (w w' : World) (gp gm : Nat) (word : ByteArray) (wv : Value) (ws : Ws) (d e : Int) (r : Ending) : Prop :=
  match tk word ws with
  | some ws1 => r = .returned (.bool true) ∧ KeptB w w' (fun q => q = gp) ∧ ∃ wv', PS w' gp gm wv' ws1 d e
  | none => r = .returned (.bool false) ∧ KeptB w w' (fun q => q = gp) ∧ PS w' gp gm wv ws d e
set_option maxRecDepth 100000 in
theorem take_any (gp gm : Nat) (word : ByteArray) (hw0 : word ≠ ⟨#[]⟩) (wv : Value) (ws : Ws) (d e : Int) (w : World) (h : PS w gp gm wv ws d e) :
    Calls Tryz.prog 52 #[.pointer (some ⟨gp, 0, none⟩), .string word] w fun r w' => TakeR w w' gp gm word wv ws d e r := by
  have NX := hidE (next_any gp gm wv ws d e w h)
  have H := hidE h
  unfold TakeR
  cases ht : tk word ws with
  | none =>
    have hne : ((hdW ws).toList == word.toList) = false := by
      cases ws with
      | nil => exact tl_other (fun e9 => hw0 e9.symm)
      | cons x r =>
        simp only [tk] at ht
        by_cases e9 : x = word
        · rw [if_pos e9] at ht; cases ht
        · exact tl_other e9
    clear h ht hw0
    generalize hdW ws = x at *
    go_enter Tryz.func52, Tryz.ntmps52
    go_wp2_with fail
    refine NX.out.mono ?_
    rintro r w1 ⟨rfl, hb⟩
    have HB := hidE hb
    clear hb NX
    go_wp2_with fail
    go_ret
    exact ⟨rfl, keptB_of_below HB.out, ps_kept H.out HB.out⟩
  | some ws1 =>
    cases ws with
    | nil => simp [tk] at ht
    | cons x r =>
      simp only [tk] at ht
      by_cases e9 : x = word
      · rw [if_pos e9] at ht
        cases ht
        subst e9
        have hx : hdW (x :: ws1) = x := rfl
        rw [hx] at NX
        have hne : (x.toList == x.toList) = true := tl_same x
        clear h hx hw0
        go_enter Tryz.func52, Tryz.ntmps52
        go_wp2_with fail
        refine NX.out.mono ?_
        rintro r w1 ⟨rfl, hb⟩
        have HB := hidE hb
        have SK := hidE (skip_any gp gm wv x ws1 d e w1 (ps_kept H.out hb))
        clear hb NX
        go_wp2_with fail
        refine SK.out.mono ?_
        rintro r w2 ⟨rfl, hk, wv', hp⟩
        have HK := hidE hk
        have HP := hidE hp
        clear hk hp SK
        go_wp2_with fail
        go_ret
        exact ⟨rfl, keptB_trans (keptB_of_below HB.out) HK.out, wv', HP.out⟩
      · rw [if_neg e9] at ht
        cases ht
set_option maxRecDepth 100000 in
theorem fail_any (gp gm : Nat) (c : Int) (hc : 0 < c) (wv : Value) (ws : Ws) (d e : Int) (w : World) (h : PS w gp gm wv ws d e) :
    Calls Tryz.prog 55 #[.pointer (some ⟨gp, 0, none⟩), .iface 48 (.int .i64 c)] w fun r w' => r = .returned (.tuple #[]) ∧ KeptB w w' (fun q => q = gp) ∧ PS w' gp gm (.slice none 0 0) [] d (errN e c) := by
  have c3 : w.cell? ⟨gp, 3, none⟩ = some (errC e) := h.bd.c 3 (by simp)
  have c0 : w.cell? ⟨gp, 0, none⟩ = some wv := h.bd.c 0 (by simp)
  have f3 := h.bd.fz 3
  have f0 := h.bd.fz 0
  have nilrow : ∀ w : World, RowG w (.slice none 0 0) 1 ([] : Ws).length (([] : Ws).map Value.string) := fun w => ⟨rfl, .inl ⟨⟨_, _, rfl⟩, rfl⟩⟩
  have nofar : ∀ g off m c', Value.slice none 0 0 = .slice (some ⟨g, off, none⟩) m c' → g < gp := fun g off m c' hq => by simp at hq
  by_cases he : e = 0
  · subst he
    have ec : errC 0 = .nilIface := rfl
    rw [ec] at c3
    have B3 := blk_set h.bd 3 (.iface 48 (.int .i64 c)) (by simp)
    have c0b : (w.setCell ⟨gp, 3, none⟩ (.iface 48 (.int .i64 c))).cell? ⟨gp, 0, none⟩ = some wv := B3.c 0 (by simp)
    have f0b := B3.fz 0
    have B0 := blk_set B3 0 (.slice none 0 0) (by simp)
    have cne : errC c = .iface 48 (.int .i64 c) := by unfold errC; rw [if_neg (by omega)]
    have ks : KeptB w ((w.setCell ⟨gp, 3, none⟩ (.iface 48 (.int .i64 c))).setCell ⟨gp, 0, none⟩ (.slice none 0 0)) (fun q => q = gp) := keptB_set (keptB_set (keptB_of_below (bad := fun q => q = gp) (Below.refl w.heap.size w)) rfl 3 _) rfl 0 _
    have P0 : Hid (PS ((w.setCell ⟨gp, 3, none⟩ (.iface 48 (.int .i64 c))).setCell ⟨gp, 0, none⟩ (.slice none 0 0)) gp gm (.slice none 0 0) [] d c) := by
      refine ⟨?_, nilrow _, nofar, mapL_kept h.sg ks h.ne, h.lt, fun _ => rfl, by simp⟩
      rw [cne]
      simpa using B0
    have KS := hidE ks
    clear h B3 B0 ks cne ec
    go_enter Tryz.func55, Tryz.ntmps55
    go_wp2_with fail
    refine ⟨rfl, _, by simp [results], rfl, KS.out, by rw [errN_0]; exact P0.out⟩
  · have ec : errC e = .iface 48 (.int .i64 e) := by unfold errC; rw [if_neg he]
    rw [ec] at c3
    have B0 := blk_set h.bd 0 (.slice none 0 0) (by simp)
    have P0 := hidE (ps_set h 0 (.slice none 0 0) (ws' := []) (d' := d) (e' := e) (by simpa using B0) (nilrow _) nofar (fun _ => rfl) (by simp))
    have HE := hidE he
    clear h B0 ec he
    go_enter Tryz.func55, Tryz.ntmps55
    go_wp2_with fail
    refine ⟨rfl, _, by simp [results], rfl, P0.out.2, by rw [errN_ne HE.out]; exact P0.out.1⟩
set_option maxRecDepth 100000 in
theorem must_any (gp gm : Nat) (word : ByteArray) (hw0 : word ≠ ⟨#[]⟩) (wv : Value) (ws : Ws) (d e : Int) (w : World) (h : PS w gp gm wv ws d e) :
    Calls Tryz.prog 50 #[.pointer (some ⟨gp, 0, none⟩), .string word] w fun r w' => r = .returned (.tuple #[]) ∧ KeptB w w' (fun q => q = gp) ∧ ∃ wv', match tk word ws with
      | some ws1 => PS w' gp gm wv' ws1 d e
      | none => PS w' gp gm wv' [] d (errN e 4) := by
  have TK := take_any gp gm word hw0 wv ws d e w h
  unfold TakeR at TK
  clear h
  cases ht : tk word ws with
  | some ws1 =>
    rw [ht] at TK
    have TK := hidE TK
    go_enter Tryz.func50, Tryz.ntmps50
    go_wp2_with fail
    refine TK.out.mono ?_
    rintro r w1 ⟨rfl, hk, wv', hp⟩
    have HK := hidE hk
    have HP := hidE hp
    clear hk hp TK
    go_wp2_with fail
    refine ⟨rfl, _, by simp [results], rfl, HK.out, wv', HP.out⟩
  | none =>
    rw [ht] at TK
    have TK := hidE TK
    go_enter Tryz.func50, Tryz.ntmps50
    go_wp2_with fail
    refine TK.out.mono ?_
    rintro r w1 ⟨rfl, hk, hp⟩
    have HK := hidE hk
    have FL := hidE (fail_any gp gm 4 (by decide) wv ws d e w1 hp)
    clear hk hp TK
    go_wp2_with fail
    refine FL.out.mono ?_
    rintro r w2 ⟨rfl, hk, hp⟩
    have HK2 := hidE hk
    have HP := hidE hp
    clear hk hp FL
    go_wp2_with fail
    refine ⟨rfl, _, by simp [results], rfl, keptB_trans HK.out HK2.out, _, HP.out⟩
end Go.Proofs.YteaanpdckkmjoaaGreatDoor
/- Statements of a law's body by their first region; ways out. Conditions: none. -/
namespace Go.Proofs.YteaanpdckkmjoaaGreatDoor
open Go.ChangeShapes Go.WideShapes Go.ChangeAt Go.RowKit
set_option linter.unusedVariables false
set_option linter.unusedSimpArgs false

/-- the number of the first region -/
def lead : Code → Option Nat
  | .region id _ _ => some id
  | .seq a _ => lead a
  | .cond _ a _ => lead a
  | .block _ b => lead b
  | .loop b => lead b
  | .scope b => lead b
  | _ => none
/-- the statement (no sequence) that opens with the region of that number -/
def stm (n : Nat) : Code → Option Code
  | .seq a b => (stm n a).or (stm n b)
  | .region id ops d => if id = n then some (.region id ops d) else none
  | .cond c a b => if lead a = some n then some (.cond c a b) else (stm n a).or (stm n b)
  | .block i b => if lead b = some n then some (.block i b) else stm n b
  | .loop b => if lead b = some n then some (.loop b) else stm n b
  | .scope b => if lead b = some n then some (.scope b) else stm n b
  | _ => none
/-- the region of that number -/
def rgn (n : Nat) : Code → Option Code
  | .region id ops d => if id = n then some (.region id ops d) else none
  | .seq a b => (rgn n a).or (rgn n b)
  | .cond _ a b => (rgn n a).or (rgn n b)
  | .block _ b => rgn n b
  | .loop b => rgn n b
  | .scope b => rgn n b
  | _ => none
theorem then_normal {next : Act → World → Prop} {Q : Exit → Act → World → Prop} {a : Act} {w : World} (h : next a w) : Exit.then next Q .normal a w := h
theorem in_normal {Q : Exit → Act → World → Prop} {id : Nat} {a : Act} {w : World} (h : Q .normal a w) : Exit.inBlock id Q .normal a w := h
theorem then_exit {K : Act → World → Prop} {Q : Exit → Act → World → Prop} {id : Nat} {a : Act} {w : World} (h : Q (.exit id) a w) : Exit.then K Q (.exit id) a w := h
theorem in_exit {Q : Exit → Act → World → Prop} {id : Nat} {a : Act} {w : World} (h : Q .normal a w) : Exit.inBlock id Q (.exit id) a w := by
  simp only [Exit.inBlock, if_true]
  exact h
theorem some_at {t : List Value} {f : Nat → Value} {i : Nat} {v : Value} (h : t[i]? = some (f i)) (hv : t[i]? = some v) : f i = v := Option.some.inj (h.symm.trans hv)
theorem pan_put {Q : Exit → Act → World → Prop} (h : ∀ c (a a' : Act) w, a.defers = a'.defers → Q (.panic c) a w → Q (.panic c) a' w) : ∀ c (a : Act) o v w, Q (.panic c) (a.put o v) w → Q (.panic c) a w := fun c a o v w hq => h c _ _ w (by cases o <;> rfl) hq
theorem pan_body {P : Program} {fn : Func} {R : Ending → World → Prop} : ∀ c (a : Act) o v w, bodyPost P fn R (.panic c) (a.put o v) w → bodyPost P fn R (.panic c) a w := pan_put (fun c a a' w he h => ⟨he ▸ h.1, h.2⟩)
theorem pan_then {K : Act → World → Prop} {Q : Exit → Act → World → Prop} (h : ∀ c (a : Act) o v w, Q (.panic c) (a.put o v) w → Q (.panic c) a w) : ∀ c (a : Act) o v w, Exit.then K Q (.panic c) (a.put o v) w → Exit.then K Q (.panic c) a w := h
theorem pan_block {id : Nat} {Q : Exit → Act → World → Prop} (h : ∀ c (a : Act) o v w, Q (.panic c) (a.put o v) w → Q (.panic c) a w) : ∀ c (a : Act) o v w, Exit.inBlock id Q (.panic c) (a.put o v) w → Exit.inBlock id Q (.panic c) a w := h
end Go.Proofs.YteaanpdckkmjoaaGreatDoor
/- A step of a drawn region, the frame behind it written out; frames that a number of slots make up. Conditions: none. -/
namespace Go.Proofs.YteaanpdckkmjoaaGreatDoor
open Go.ChangeShapes Go.WideShapes Go.ChangeAt Go.RowKit
set_option linter.unusedVariables false

section
variable {P : Program} {md : Region.Mode} {ops : Array Oper} {Q : Exit → Act → World → Prop} {S : World → Prop}
theorem held_take2 {i : Nat} {oi : Oper} {v : Value} {fuel : Nat} {listed L : Array Bool} {a a2 : Act} {w : World} (hi : ops[i]? = some oi)
    (hs : Region.noSelect ops = true) (hf : Region.free md ops listed i = true) (hr : (Region.ready md ops listed).contains i = true)
    (hQ : ∀ c a w, Q (.panic c) (a.put oi.dst v) w → Q (.panic c) a w) (hy : YieldsIf P ops S oi v a) (hS : S w) (hL : listed.setIfInBounds i true = L) (ha : a.put oi.dst v = a2)
    (h : wpAnyH P md ops Q S fuel L a2 w) : wpAnyH P md ops Q S (fuel + 1) listed a w := held_take hi hs hf hr hQ hy hS hL (ha ▸ h)
theorem at_frame {fuel : Nat} {listed : Array Bool} {a a2 : Act} {w : World} (ha : a = a2) (h : wpAnyH P md ops Q S fuel listed a2 w) : wpAnyH P md ops Q S fuel listed a w := ha ▸ h
theorem wp_then {X : Code} {K K' : Act → World → Prop} {a : Act} {w : World} (h : X.wp P (Exit.then K Q) a w) (hk : ∀ a w, K a w → K' a w) : X.wp P (Exit.then K' Q) a w :=
  wp_mono h (fun e a w h => by
    cases e
    · exact hk _ _ h
    all_goals exact h)
end
end Go.Proofs.YteaanpdckkmjoaaGreatDoor
/- Blocks of many cells: what is loaded and stored as a whole; sectors and writes in memory. Conditions: none. -/
namespace Go.Proofs.YteaanpdckkmjoaaGreatDoor
open Go.ChangeShapes Go.WideShapes Go.ChangeAt Go.RowKit
set_option linter.unusedVariables false
set_option linter.unusedSimpArgs false

/-- bytes as cells -/
def bc (d : List UInt8) : List Value := d.map fun x => Value.int .u8 (x.toNat : Int)
theorem bc_len (d : List UInt8) : (bc d).length = d.length := by simp [bc]
/-- a sector's bytes -/
abbrev Blk := { l : List UInt8 // l.length = 256 }
/-- a write that isn't kept yet: its bit, its bytes -/
abbrev Wr := Int × Blk
def cellsW (p : Wr) : List Value := .int .i64 p.1 :: bc p.2.1
def rowW (ws : List Wr) : List Value := rowOf cellsW ws
theorem cellsW_len (p : Wr) : (cellsW p).length = 257 := by simp [cellsW, bc_len, p.2.2]

theorem below_alloc (w : World) (o : Obj) : Below w.heap.size w (w.alloc o) := (Below.refl _ _).alloc (Nat.le_refl _) o
theorem blk_alloc (w : World) (cs : List Value) (e : TypeId) : BlkAt (w.alloc (.cells cs.toArray e)) w.heap.size cs := by
  refine ⟨fun j hj => ?_, fun o => by go_simp, by simp⟩
  simp
theorem add_at (g o j : Nat) : (⟨g, o, none⟩ : Addr).add j = ⟨g, o + j, none⟩ := by unfold Addr.add; split <;> simp_all
/-- many cells, loaded as a whole -/
theorem run_load_many {w : World} {g o n : Nat} (cs : List Value) (hn : cs.length = n) (h : ∀ j, j < n → w.cell? ⟨g, o + j, none⟩ = cs[j]?) :
    (loadCellsFrom ⟨g, o, none⟩ 0 n #[]).run Tryz.prog w = .ok cs.toArray w := by
  subst hn
  have := run_loadCells_list (P := Tryz.prog) w ⟨g, o, none⟩ cs (fun j v hv => by
    rw [add_at, h j (List.getElem?_eq_some_iff.1 hv).1, hv])
  simpa [loadCells] using this
theorem heap_setCells (g : Nat) (i : Nat) (hi : i ≠ g) : ∀ (vs : List Value) (o : Nat) (w : World), (w.setCells g o vs).heap[i]? = w.heap[i]?
  | [], _, _ => rfl
  | v :: r, o, w => by
    rw [World.setCells, heap_setCells g i hi r (o + 1) _]
    exact Below.heap_setCell w _ v i hi
theorem size_setCells (g : Nat) : ∀ (vs : List Value) (o : Nat) (w : World), (w.setCells g o vs).heap.size = w.heap.size
  | [], _, _ => rfl
  | v :: r, o, w => by
    rw [World.setCells, size_setCells g r (o + 1) _]
    simp
theorem kept_setCells {a b : World} {bad : Nat → Prop} {g : Nat} (hg : bad g) : ∀ (vs : List Value) (o : Nat) (b : World), KeptB a b bad → KeptB a (b.setCells g o vs) bad
  | [], _, _, h => h
  | v :: r, o, b, h => kept_setCells (b := b) hg r (o + 1) _ (keptB_set h hg o v)
/-- a part of a block, stored as a whole -/
theorem blk_setCells {w : World} {g : Nat} {C : List Value} (h : BlkAt w g C) (o : Nat) (vs : List Value) (ho : o + vs.length ≤ C.length) : BlkAt (w.setCells g o vs) g (C.take o ++ (vs ++ C.drop (o + vs.length))) := by
  have hto : (C.take o).length = o := by rw [List.length_take]; omega
  refine ⟨fun j hj => ?_, fun p => by rw [World.frozen?_setCells]; exact h.fz p, by rw [size_setCells]; exact h.lt⟩
  have hl : (C.take o ++ (vs ++ C.drop (o + vs.length))).length = C.length := by
    rw [List.length_append, List.length_append, hto, List.length_drop]
    omega
  rw [hl] at hj
  by_cases h1 : j < o
  · rw [World.cell?_setCells_out g vs o w _ (fun _ _ => .inl h1), h.c j hj, List.getElem?_append_left (by omega), List.getElem?_take_of_lt h1]
  · by_cases h2 : j < o + vs.length
    · obtain ⟨i, rfl⟩ : ∃ i, j = o + i := ⟨j - o, by omega⟩
      rw [World.cell?_setCells_in g vs o w (fun q hq => by rw [h.c (o + q) (by omega)]; simp; omega) i (by omega), List.getElem?_append_right (by omega), hto, List.getElem?_append_left (by omega), Nat.add_sub_cancel_left, List.getElem?_eq_getElem]
    · rw [World.cell?_setCells_out g vs o w _ (fun _ _ => .inr (by show o + vs.length ≤ j; omega)), h.c j hj, List.getElem?_append_right (by omega), hto, List.getElem?_append_right (by omega), List.getElem?_drop]
      congr 1
      omega
theorem blk_far_cells {w : World} {g g' : Nat} {C : List Value} (h : BlkAt w g C) (hne : g' ≠ g) (o : Nat) (vs : List Value) : BlkAt (w.setCells g' o vs) g C :=
  ⟨fun j hj => (World.cell?_of_block (w := w) (heap_setCells g' g (fun e => hne e.symm) vs o w)).trans (h.c j hj), fun p => by rw [World.frozen?_setCells]; exact h.fz p, by rw [size_setCells]; exact h.lt⟩
theorem run_store_many {w : World} {g o : Nat} {C : List Value} (h : BlkAt w g C) (vs : List Value) (ho : o + vs.length ≤ C.length) (h1 : ∀ v ∈ vs, v.oneCell' = true) :
    (storeCells ⟨g, o, none⟩ vs 0).run Tryz.prog w = .ok () (w.setCells g o vs) := by
  have := run_storeCells_cells (P := Tryz.prog) g o vs 0 w (fun j hj => by rw [Nat.add_zero, h.c (o + j) (by omega)]; simp; omega) (fun j hj => h.fz _) h1
  simpa using this
theorem bc_one (d : List UInt8) : ∀ v ∈ bc d, v.oneCell' = true := fun v hv => by
  obtain ⟨x, _, rfl⟩ := List.mem_map.1 hv
  rfl
theorem cellsW_one (p : Wr) : ∀ v ∈ cellsW p, v.oneCell' = true := fun v hv => by
  rcases List.mem_cons.1 hv with rfl | hv
  · rfl
  · exact bc_one _ v hv
theorem wrapIn2 (n : Int) (h0 : -9223372036854775808 ≤ n) (h1 : n ≤ 9223372036854775807) : IntKind.i64.wrap n = n := by
  rw [IntKind.wrap_i64]
  omega
end Go.Proofs.YteaanpdckkmjoaaGreatDoor

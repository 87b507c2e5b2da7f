/- The statement PanesSays of package penstocklaw: for all kinds, every size and every list of what is added the call returns true, and each argument reads afterwards as it read before. Conditions: none. -/
import Derived.Test.YtoihjhhambgpfabPanesSays
namespace Go.Proofs.Ytoihjhhambgpfab
open Go.ChangeShapes Go.WideShapes Go.ChangeAt Go.RowKit Go.Joins Go.Deep
set_option linter.unusedVariables false

section
variable {α : Type} {S : Nat} {f : α → List Value}
set_option maxRecDepth 100000 in
/-- a list of things that is handed in, each of them with what holds of it -/
theorem open_rowP {H : Type} {enc : TypeId × Value → H} {W : World} {v : Value} {x : DataW H × List MemPlace} {ts te : TypeId} {sp : Nat → Bool} {hd : Bool} {fuel : Nat} {Pz : α → Prop} (hf : ∀ a, (f a).length = S) (hS : 0 < S)
    (hu : Try.prog.underlying ts = some (.slice te)) (hc : Try.prog.cellsOf te = S) (dflt : α)
    (open1 : ∀ {fuel : Nat} {cs : List Value} {x : DataW H × List MemPlace}, DataW.trod enc Try.prog W 0 sp hd fuel te cs = some x → ∃ n : α, cs = f n ∧ Pz n)
    (h : DataW.trod enc Try.prog W 0 sp hd fuel ts [v] = some x) :
    ∃ l : List α, RowG W v S l.length (rowOf f l) ∧ l.length ≤ maxLen ∧ ∀ a ∈ l, Pz a := by
  have nilcase : ∀ (ao : Option Addr) (cp : Nat), ∃ l : List α, RowG W (.slice ao 0 cp) S l.length (rowOf f l) ∧ l.length ≤ maxLen ∧ ∀ a ∈ l, Pz a := fun ao cp =>
    ⟨[], ⟨by simp [rowOf], .inl ⟨⟨_, _, rfl⟩, rfl⟩⟩, Nat.zero_le _, fun a ha => by simp at ha⟩
  rcases open_slice hu h with ⟨hc', -⟩ | ⟨a, ln, cp, m, n, D, Pl, hc', -, hl, hm, hmm, -, hx⟩
  · simp only [List.cons.injEq, and_true] at hc'
    subst hc'
    exact nilcase _ _
  · simp only [List.cons.injEq, and_true] at hc'
    subst hc'
    have hlm : ln ≤ m := by rw [hmm]; split <;> omega
    rw [hc] at hx
    have each : ∀ i, i < ln → ∃ nd : α, (∀ j, j < S → W.cell? (a.add (i * S + j)) = (f nd)[j]?) ∧ Pz nd := by
      intro i hi
      obtain ⟨cs', h1, h2⟩ := hx i (by omega)
      obtain ⟨nd, rfl, hp⟩ := open1 h2
      obtain ⟨-, hlen, hcell⟩ := World.cells?_some h1
      refine ⟨nd, fun j hj => ?_, hp⟩
      have := hcell j hj
      rw [← this, add_add]
    by_cases h0 : ln = 0
    · subst h0
      exact nilcase _ _
    · obtain ⟨g, off, spot⟩ := a
      have hspot : spot = none := by
        obtain ⟨nd, hnd, -⟩ := each 0 (by omega)
        have h9 := hnd 0 hS
        have hlt : 0 < (f nd).length := by rw [hf]; exact hS
        rw [List.getElem?_eq_getElem hlt] at h9
        exact (by simpa [Addr.add] using World.cell?_spot h9)
      subst hspot
      have each2 : ∀ i, ∃ nd : α, i < ln → (∀ j, j < S → W.cell? ⟨g, off + (i * S + j), none⟩ = (f nd)[j]?) ∧ Pz nd := by
        intro i
        by_cases hi : i < ln
        · obtain ⟨nd, hnd, hp⟩ := each i hi
          exact ⟨nd, fun _ => ⟨fun j hj => by rw [← hnd j hj, add_plain], hp⟩⟩
        · exact ⟨dflt, fun h => absurd h hi⟩
      obtain ⟨F, hF⟩ := Classical.axiomOfChoice each2
      have hg : g < W.heap.size := by
        obtain ⟨cs', h1, -⟩ := hx 0 (by omega)
        have := World.cells?_block h1 (by omega)
        simpa [Addr.add] using this
      have hlen : ((List.range ln).map F).length = ln := by simp
      refine ⟨(List.range ln).map F, ⟨rowOf_len hf _, .inr ⟨g, off, cp, by rw [hlen], by rw [hlen]; omega, by omega, hg, fun j hj => ?_⟩⟩, by rw [hlen]; omega, fun a ha => ?_⟩
      · rw [hlen] at hj
        have hi : j / S < ln := (Nat.div_lt_iff_lt_mul hS).2 hj
        have hr : j % S < S := Nat.mod_lt _ hS
        have e : j / S * S + j % S = j := by rw [Nat.mul_comm]; exact Nat.div_add_mod j S
        have h1 := (hF (j / S) hi).1 (j % S) hr
        rw [e] at h1
        rw [h1, ← rowOf_at hf ((List.range ln).map F) (j / S) (j % S) (F (j / S)) (by simp [hi]) hr, e]
      · obtain ⟨i, hi, rfl⟩ := List.mem_map.1 ha
        exact (hF i (by simpa using hi)).2
end

theorem cellsAdd : Try.prog.cellsOf 89 = 6 := by kernel_rfl
theorem cellsVs : Try.prog.cellsOf 53 = 1 := by kernel_rfl
theorem list6 {α : Type} {cs : List α} (h : cs.length = 6) : ∃ a b c d e f, cs = [a, b, c, d, e, f] := by
  match cs, h with
  | [a, b, c, d, e, f], _ => exact ⟨a, b, c, d, e, f, rfl⟩
theorem list5 {α : Type} {cs : List α} (h : cs.length = 5) : ∃ a b c d e, cs = [a, b, c, d, e] := by
  match cs, h with
  | [a, b, c, d, e], _ => exact ⟨a, b, c, d, e, rfl⟩

set_option maxRecDepth 100000 in
theorem open_add {H : Type} {enc : TypeId × Value → H} {W : World} {sp : Nat → Bool} {hd : Bool} {fuel : Nat} {cs : List Value} {x : DataW H × List MemPlace}
    (h : DataW.trod enc Try.prog W 0 sp hd fuel 89 cs = some x) : ∃ a : Ad, cs = cellsAd a ∧ RowG W a.vv 2 a.vs.length (rowV a.vs) ∧ a.vs.length ≤ maxLen := by
  obtain ⟨xs, k, -, -, hlen, hxl, hf⟩ := DataW.trod_struct Try.underlying89 h
  rw [cellsAdd] at hlen
  obtain ⟨c0, c1, c2, c3, c4, c5, rfl⟩ := list6 hlen
  obtain ⟨y0, y1, y2, y3, y4, rfl⟩ := list5 hxl
  have g0 : DataW.trod enc Try.prog W 0 sp hd k 3 (List.take (Try.prog.cellsOf 3) (List.drop 0 [c0, c1, c2, c3, c4, c5])) = some y0 := hf 0 _ rfl
  have g1 : DataW.trod enc Try.prog W 0 sp hd k 59 (List.take (Try.prog.cellsOf 59) (List.drop 1 [c0, c1, c2, c3, c4, c5])) = some y1 := hf 1 _ rfl
  have g2 : DataW.trod enc Try.prog W 0 sp hd k 53 (List.take (Try.prog.cellsOf 53) (List.drop 3 [c0, c1, c2, c3, c4, c5])) = some y2 := hf 2 _ rfl
  have g3 : DataW.trod enc Try.prog W 0 sp hd k 3 (List.take (Try.prog.cellsOf 3) (List.drop 4 [c0, c1, c2, c3, c4, c5])) = some y3 := hf 3 _ rfl
  have g4 : DataW.trod enc Try.prog W 0 sp hd k 3 (List.take (Try.prog.cellsOf 3) (List.drop 5 [c0, c1, c2, c3, c4, c5])) = some y4 := hf 4 _ rfl
  rw [cellsInt] at g0 g3 g4
  rw [cellsValue] at g1
  rw [cellsVs] at g2
  obtain ⟨n0, e0⟩ := one_int g0
  obtain ⟨m1, n1, e1, e2⟩ := two_pval g1
  obtain ⟨n3, e3⟩ := one_int g3
  obtain ⟨n4, e4⟩ := one_int g4
  obtain ⟨vs, hr, hl, -⟩ := open_rowP (f := cellsV) (S := 2) (Pz := fun _ => True) (fun _ => rfl) (by decide) Try.underlying53 cellsValue (0, 0) (fun h => by
    obtain ⟨n, e⟩ := open_pval h
    exact ⟨n, e, trivial⟩) g2
  exact ⟨⟨n0, m1, n1, vs, c3, n3, n4⟩, by rw [e0, e1, e2, e3, e4]; rfl, hr, hl⟩

theorem ints_row (l : List Int) : rowOf (fun n : Int => [Value.int .i64 n]) l = l.map (Value.int .i64) := by
  induction l with
  | nil => rfl
  | cons a l ih => rw [rowOf_cons, ih]; rfl

set_option maxRecDepth 100000 in
theorem panesSays_lifted (os : Os) (started : os.Started) (H : Type) (enc : TypeId × Value → H) :
    ReturnsInHanded {} Try.checked os 7 .any (Rows.panesSaysSpec.pre6 enc Try.prog Try.f7 Rows.panesSaysRow.domain false) (Rows.panesSaysSpec.post enc Try.prog Try.f7 false true false false) := by
  refine returnsInHanded_of_change (C := Try.checked) own started (by kernel_rfl) Try.func7
    (ChangeSpec.witness6 (enc := enc) (C := Try.checked) false ⟨#[], #[.slice none 0 0, .int .i64 0, .slice none 0 0], []⟩ 8 (by kernel_rfl) (by kernel_rfl) (by kernel_rfl) (by kernel_rfl)) ?_
  intro W base args ds gs before hval0 hW hcnd _
  have hval : ∀ (j : Nat) t v, Try.f7.params[j]? = some t → args[j]? = some v → Value.okWide Try.prog W .any base t v := hval0
  have hW' := hW
  obtain ⟨p, q, hA0, hV, rfl, hfz, hnd⟩ := hW
  have hA : DataW.TrodAll enc Try.prog W 0 (fun _ => true) true Try.f7.params.toList args.toList ds p := hA0
  rw [Try.params7] at hA hval
  obtain ⟨v0, vs0, d0, ds0, p0, q0, hargs, rfl, rfl, h0, r0⟩ := trodAll_cons hA
  obtain ⟨v1, vs1, d1, ds1, p1, q1, rfl, rfl, rfl, h1, r1⟩ := trodAll_cons r0
  obtain ⟨v2, vs2, d2, ds2, p2, q2, rfl, rfl, rfl, h2, r2⟩ := trodAll_cons r1
  obtain ⟨rfl, rfl, rfl⟩ := trodAll_nil r2
  obtain rfl : args = #[v0, v1, v2] := by cases args; simp_all
  obtain ⟨rfl, rfl⟩ := trodVars_none hV
  obtain ⟨ks, rk, hkl⟩ := open_list (f := fun n : Int => [Value.int .i64 n]) (S := 1) (fun _ => rfl) (by decide) Try.underlying22 cellsInt 0 (fun {sp hd fuel cs x} h => by
    obtain ⟨a, e, -, -⟩ := DataW.trod_int Try.underlying3 h
    exact ⟨a, e⟩) (hval 0 22 v0 rfl rfl) h0
  rw [ints_row] at rk
  have k1 := h1
  obtain ⟨size, rfl, rfl, rfl, _⟩ := open_int Try.underlying3 (hval 1 3 v1 rfl rfl) h1
  obtain ⟨al, lal, cal, rfl⟩ := okWide_slice Try.underlying83 (hval 2 83 v2 rfl rfl)
  obtain ⟨fuel, hfu⟩ := h2
  obtain ⟨l, rl, hl, ha⟩ := open_rowP (f := cellsAd) (S := 6) (Pz := fun a => RowG W a.vv 2 a.vs.length (rowV a.vs) ∧ a.vs.length ≤ maxLen) cellsAd_len (by decide) Try.underlying83 cellsAdd ⟨0, 0, 0, [], .bool false, 0, 0⟩ open_add hfu
  have k2 : DataW.Trod enc Try.prog W 0 (fun _ => true) true 83 (.slice al lal cal) d2 p2 := ⟨fuel, hfu⟩
  clear hA0 hval0
  refine (panesSays_walk ks v0 size l (.slice al lal cal) W rk hkl rl hl ha).mono fun e W' ⟨he, bel⟩ => ?_
  subst he
  exact ⟨_, rfl, _, _, _, [], _, [], hW', trodAll_mk1 (shut_bool Try.underlying4 _), (trodAll_cons_mk (again (by kernel_rfl) (of_decide_eq_true (by kernel_rfl)) h0 bel) (trodAll_cons_mk (again (by kernel_rfl) (of_decide_eq_true (by kernel_rfl)) k1 bel) (trodAll_cons_mk (again (by kernel_rfl) (of_decide_eq_true (by kernel_rfl)) k2 bel) trodAll_mk0))), rfl, bel.frame _, fun h => by cases h⟩

theorem panesSays_holds : Rows.PanesSaysSaid :=
  OpenClaim.holds_of_wide 7 Try.f7 rfl rfl rfl rfl rfl rfl rfl ⟨rfl, rfl, rfl, rfl, rfl⟩ rfl rfl rfl rfl rfl (by kernel_rfl) Try.func7 (by kernel_rfl)
    (of_decide_eq_true (by kernel_rfl)) (by unfold Func.isWrapper; first | (rw [if_pos (by decide +kernel)]; kernel_rfl) | (rw [if_neg (by decide +kernel)]; exact ⟨rfl, rfl⟩))
    (fun os started H enc _ => panesSays_lifted os started H enc)
#print axioms panesSays_holds
end Go.Proofs.Ytoihjhhambgpfab

/- The statement FoldSays of package penstocklaw: for every list of nodes and every list of events the call returns true, and each argument reads afterwards as it read before. Conditions: none. -/
import Derived.Test.YtepfpmagppckeaaFoldSays
namespace Go.Proofs.Ytepfpmagppckeaa
open Go.ChangeShapes Go.WideShapes Go.ChangeAt Go.RowKit Go.Joins Go.Deep
set_option linter.unusedVariables false

set_option maxRecDepth 100000 in
/-- an event's cells -/
theorem open_ev {H : Type} {enc : TypeId × Value → H} {W : World} {sp : Nat → Bool} {hd : Bool} {fuel : Nat} {cs : List Value} {x : DataW H × List MemPlace}
    (h : DataW.trod enc Try.prog W 0 sp hd fuel 37 cs = some x) : ∃ e : Ev, cs = cellsE e := by
  obtain ⟨xs, k, -, -, hlen, hxl, hf⟩ := DataW.trod_struct Try.underlying37 h
  rw [cellsEvent] at hlen
  obtain ⟨c0, c1, c2, c3, c4, c5, c6, rfl⟩ := list7 hlen
  obtain ⟨y0, y1, y2, y3, rfl⟩ := list4 hxl
  have g0 : DataW.trod enc Try.prog W 0 sp hd k 3 (List.take (Try.prog.cellsOf 3) (List.drop 0 [c0, c1, c2, c3, c4, c5, c6])) = some y0 := hf 0 _ rfl
  have g1 : DataW.trod enc Try.prog W 0 sp hd k 35 (List.take (Try.prog.cellsOf 35) (List.drop 1 [c0, c1, c2, c3, c4, c5, c6])) = some y1 := hf 1 _ rfl
  have g2 : DataW.trod enc Try.prog W 0 sp hd k 35 (List.take (Try.prog.cellsOf 35) (List.drop 3 [c0, c1, c2, c3, c4, c5, c6])) = some y2 := hf 2 _ rfl
  have g3 : DataW.trod enc Try.prog W 0 sp hd k 35 (List.take (Try.prog.cellsOf 35) (List.drop 5 [c0, c1, c2, c3, c4, c5, c6])) = some y3 := hf 3 _ rfl
  rw [cellsInt] at g0
  rw [cellsValue] at g1 g2 g3
  obtain ⟨n0, e0⟩ := one_int g0
  obtain ⟨m1, n1, e1, e2⟩ := two_int g1
  obtain ⟨m2, n2, e3, e4⟩ := two_int g2
  obtain ⟨m3, n3, e5, e6⟩ := two_int g3
  exact ⟨⟨n0, m1, n1, m2, n2, m3, n3⟩, by rw [e0, e1, e2, e3, e4, e5, e6]; rfl⟩

set_option maxRecDepth 100000 in
theorem foldSays_lifted (os : Os) (started : os.Started) (H : Type) (enc : TypeId × Value → H) :
    ReturnsInHanded {} Try.checked os 5 .any (Rows.foldSaysSpec.pre6 enc Try.prog Try.f5 Rows.foldSaysRow.domain false) (Rows.foldSaysSpec.post enc Try.prog Try.f5 false true false false) := by
  refine returnsInHanded_of_change (C := Try.checked) own started (by kernel_rfl) Try.func5
    (ChangeSpec.witness6 (enc := enc) (C := Try.checked) false ⟨#[], #[.slice none 0 0, .slice none 0 0], []⟩ 8 (by kernel_rfl) (by kernel_rfl) (by kernel_rfl) (by kernel_rfl)) ?_
  intro W base args ds gs before hval0 hW hcnd _
  have hval : ∀ (j : Nat) t v, Try.f5.params[j]? = some t → args[j]? = some v → Value.okWide Try.prog W .any base t v := hval0
  have hW' := hW
  obtain ⟨p, q, hA0, hV, rfl, hfz, hnd⟩ := hW
  have hA : DataW.TrodAll enc Try.prog W 0 (fun _ => true) true Try.f5.params.toList args.toList ds p := hA0
  rw [Try.params5] at hA hval
  obtain ⟨v0, vs0, d0, ds0, p0, q0, hargs, rfl, rfl, h0, r0⟩ := trodAll_cons hA
  obtain ⟨v1, vs1, d1, ds1, p1, q1, rfl, rfl, rfl, h1, r1⟩ := trodAll_cons r0
  obtain ⟨rfl, rfl, rfl⟩ := trodAll_nil r1
  obtain rfl : args = #[v0, v1] := by cases args; simp_all
  obtain ⟨rfl, rfl⟩ := trodVars_none hV
  obtain ⟨l, rl, hl⟩ := open_nodes (hval 0 33 v0 rfl rfl) h0
  obtain ⟨es, re, hes⟩ := open_list cellsE_len (by decide) Try.underlying55 cellsEvent (⟨0, 0, 0, 0, 0, 0, 0⟩ : Ev) open_ev (hval 1 55 v1 rfl rfl) h1
  clear hA0 hval0
  refine (foldSays_walk l es v0 v1 W rl re hl hes).mono fun e W' ⟨he, bel⟩ => ?_
  subst he
  exact ⟨_, rfl, _, _, _, [], _, [], hW', trodAll_mk1 (shut_bool Try.underlying4 _), (trodAll_cons_mk (again (by kernel_rfl) (of_decide_eq_true (by kernel_rfl)) h0 bel) (trodAll_cons_mk (again (by kernel_rfl) (of_decide_eq_true (by kernel_rfl)) h1 bel) trodAll_mk0)), rfl, bel.frame _, fun h => by cases h⟩

theorem foldSays_holds : Rows.FoldSaysSaid :=
  OpenClaim.holds_of_wide 5 Try.f5 rfl rfl rfl rfl rfl rfl rfl ⟨rfl, rfl, rfl, rfl, rfl⟩ rfl rfl rfl rfl rfl (by kernel_rfl) Try.func5 (by kernel_rfl)
    (of_decide_eq_true (by kernel_rfl)) (by unfold Func.isWrapper; first | (rw [if_pos (by decide +kernel)]; kernel_rfl) | (rw [if_neg (by decide +kernel)]; exact ⟨rfl, rfl⟩))
    (fun os started H enc _ => foldSays_lifted os started H enc)
#print axioms foldSays_holds
end Go.Proofs.Ytepfpmagppckeaa

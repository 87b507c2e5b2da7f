/- What parts of events that are handed in are. Conditions: none. -/
import Derived.Test.YtaomljdbndajgaaGreatDoorBtFJ
import Derived.Test.YtaomljdbndajgaaGreatDoorEvArgJ
namespace Go.Proofs.YtaomljdbndajgaaGreatDoor
open Go.ChangeShapes Go.WideShapes Go.ChangeAt Go.RowKit Go.Joins Go.Deep
set_option linter.unusedVariables false

theorem cellsEvents1 : Tryz.prog.cellsOf 50 = 1 := by kernel_rfl
def cellsPt (p : List Ev × Value) : List Value := [p.2]
theorem open_eventsT {H : Type} {enc : TypeId × Value → H} {W : World} {sp : Nat → Bool} {hd : Bool} {fuel : Nat} {v : Value} {x : DataW H × List MemPlace}
    (h : DataW.trod enc Tryz.prog W 0 sp hd fuel 50 [v] = some x) : ∃ l : List Ev, RowG W v 7 l.length (rowOf cellsE l) := by
  obtain ⟨l, hr, -, -⟩ := open_rowP (f := cellsE) (S := 7) (Pz := fun _ => True) cellsE_len (by decide) Tryz.underlying50 cellsEvent ⟨0, 0, 0, 0, 0, 0, 0⟩ (fun h => by
    obtain ⟨n, e⟩ := open_ev h
    exact ⟨n, e, trivial⟩) h
  exact ⟨l, hr⟩
theorem open_parts {H : Type} {enc : TypeId × Value → H} {W : World} {sp : Nat → Bool} {hd : Bool} {fuel : Nat} {v : Value} {x : DataW H × List MemPlace}
    (h : DataW.trod enc Tryz.prog W 0 sp hd fuel 22 [v] = some x) : ∃ (vs : List Value) (M : List (List Ev)), PtsR W v vs M ∧ M.length ≤ maxLen := by
  obtain ⟨ps, hr, hl, hp⟩ := open_rowP (f := cellsPt) (S := 1) (Pz := fun p => RowG W p.2 7 p.1.length (rowOf cellsE p.1)) (fun _ => rfl) (by decide) Tryz.underlying22 cellsEvents1 ([], .slice none 0 0) (fun {fuel cs x} h => by
    cases fuel with
    | zero => simp [DataW.trod] at h
    | succ k =>
      have hlen : ∃ c, cs = [c] := by
        rcases open_slice Tryz.underlying50 h with ⟨hc, -⟩ | ⟨a, ln, cp, m, n, D, Pl, hc, -⟩
        · exact ⟨_, hc⟩
        · exact ⟨_, hc⟩
      obtain ⟨c, rfl⟩ := hlen
      obtain ⟨l, hr⟩ := open_eventsT h
      exact ⟨(l, c), rfl, hr⟩) h
  refine ⟨ps.map Prod.snd, ps.map Prod.fst, ⟨?_, by simp, fun i v l h1 h2 => ?_⟩, by simpa using hl⟩
  · have e : rowOf cellsPt ps = ps.map Prod.snd := by
      clear hr hl hp
      induction ps with
      | nil => rfl
      | cons a l ih => rw [rowOf_cons, ih]; rfl
    rw [e] at hr
    simpa using hr
  · rw [List.getElem?_map] at h1 h2
    cases hi : ps[i]? with
    | none => rw [hi] at h1; simp at h1
    | some p =>
      rw [hi] at h1 h2
      simp only [Option.map_some, Option.some.injEq] at h1 h2
      subst h1 h2
      exact hp p (List.mem_of_getElem? hi)
end Go.Proofs.YtaomljdbndajgaaGreatDoor

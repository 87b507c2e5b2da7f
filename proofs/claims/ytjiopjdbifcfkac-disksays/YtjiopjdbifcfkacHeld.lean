/- A drawn region whose stores go into one block alone: an operation that yields the same in every world that keeps the rest may be taken first; the one that is ready goes on. Conditions: none. -/
import Derived.Test.YtjiopjdbifcfkacBase
import Derived.OrdersHeld
namespace Go.Proofs.Ytjiopjdbifcfkac
open Go.ChangeShapes Go.WideShapes Go.ChangeAt Go.RowKit
set_option linter.unusedVariables false

theorem all_one {P : Nat → Prop} {k : Nat} (h : P k) : ∀ i ∈ [k], P i := fun i hi => by rw [List.mem_singleton.1 hi]; exact h
section
variable {P : Program} {md : Region.Mode} {ops : Array Oper} {Q : Exit → Act → World → Prop} {S : World → Prop}
theorem held_take {i : Nat} {oi : Oper} {v : Value} {fuel : Nat} {listed L : Array Bool} {a : Act} {w : World} (hi : ops[i]? = some oi)
    (hs : Region.noSelect ops = true) (hf : Region.free md ops listed i = true) (hr : (Region.ready md ops listed).contains i = true)
    (hQ : ∀ c a w, Q (.panic c) (a.put oi.dst v) w → Q (.panic c) a w) (hy : YieldsIf P ops S oi v a) (hS : S w) (hL : listed.setIfInBounds i true = L)
    (h : wpAnyH P md ops Q S fuel L (a.put oi.dst v) w) : wpAnyH P md ops Q S (fuel + 1) listed a w :=
  wpAnyH_take hi hs hf hr hQ hy hS (by rw [hL]; exact h)
theorem held_go {i : Nat} {o : Oper} {fuel : Nat} {listed L : Array Bool} {a : Act} {w : World} (hr : Region.ready md ops listed = [i]) (ho : ops[i]? = some o)
    (hw : Region.wanted o (yielded ops a.tmps) = true) (hL : listed.setIfInBounds i true = L)
    (h : ∀ K' : Act → World → Prop, (∀ a' w', (S w' ∧ wpAnyH P md ops Q S fuel L a' w') → K' a' w') → Oper.wp P o a w K' Q) : wpAnyH P md ops Q S (fuel + 1) listed a w :=
  wpAnyH_all hr (by simp) (all_one (wpOp_step ho (fun K' hK => by rw [if_pos hw]; exact h K' (fun a' w' q => hK a' w' ⟨q.1, by rw [hL]; exact q.2⟩))))
end

/-- all that WX had is as it was, but for one block -/
def SKeep (WX : World) (g : Nat) (w' : World) : Prop := ∀ b o, b < WX.heap.size → b ≠ g → w'.cell? ⟨b, o, none⟩ = WX.cell? ⟨b, o, none⟩
theorem keep_below {WX w' : World} (g : Nat) (h : Below WX.heap.size WX w') : SKeep WX g w' := fun b o hb _ => h.cell (p := ⟨b, o, none⟩) hb
theorem keep_set {WX w' : World} {g : Nat} (h : SKeep WX g w') (o : Nat) (u : Value) : SKeep WX g (w'.setCell ⟨g, o, none⟩ u) := fun b o' hb hn => by
  rw [← h b o' hb hn]
  exact World.cell?_of_block (w := w') (Below.heap_setCell w' _ u b hn)
end Go.Proofs.Ytjiopjdbifcfkac

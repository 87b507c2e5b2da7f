/- A region that draws its order, whose operations only read what lies in W0 and whose callees keep all that was there, walked once: the class of worlds in which all that W0 had is as it was. Conditions: none. -/
import Derived.WalkKit
import Derived.Below
import Derived.BigQuiet
import Derived.Deep.QuietTactic
namespace Go.Proofs.YtaomljdbndajgaaGreatDoor
open Go.RowKit

/-- a world in which all that W0 had is as it was -/
structure Kin (W0 : World) where
  w : World
  h : Below W0.heap.size W0 w

theorem wp_region_kin {P : Program} {id : Nat} {Q : Exit → Act → World → Prop} {a : Act} {W0 w : World} {l : List Oper} (hb : Hid (Below W0.heap.size W0 w)) (hm : P.follows .mixedOrders = true) (hB : Region.lexB .any l.toArray = true)
    (h : wpQuiet P l.toArray (fun w' => ∃ p : Kin W0, w' = p.w) (fun a' => ∀ w', (∃ p : Kin W0, w' = p.w) → Q .normal a' w') l a) : (Code.region id l.toArray true).wp P Q a w :=
  wp_region_quiet (C := fun w' => ∃ p : Kin W0, w' = p.w) hm hB ⟨⟨_, hb.out.drew⟩, rfl⟩ (by simpa using h)

theorem kin_of {P : Program} {f : FuncId} {args : Array Value} {W0 : World} {p : Kin W0} {v : Value}
    (h : Calls P f args p.w fun e w' => e = .returned v ∧ Below p.w.heap.size p.w w') : Calls P f args p.w fun e w'' => e = .returned v ∧ ∃ q : Kin W0, w'' = q.w :=
  h.mono fun _ w' ⟨he, hb⟩ => ⟨he, ⟨w', p.h.trans (hb.mono p.h.size)⟩, rfl⟩

theorem kin_same {P : Program} {f : FuncId} {args : Array Value} {W0 : World} {p : Kin W0} {v : Value}
    (h : Calls P f args p.w fun e w' => e = .returned v ∧ w' = p.w) : Calls P f args p.w fun e w'' => e = .returned v ∧ ∃ q : Kin W0, w'' = q.w :=
  h.mono fun _ _ ⟨he, hb⟩ => ⟨he, p, hb⟩

/-- what the walk may use of such worlds, as rules -/
theorem kin_rules (W0 : World) : (∀ (p : Kin W0) (b o : Nat), b < W0.heap.size → p.w.cell? ⟨b, o, none⟩ = W0.cell? ⟨b, o, none⟩) ∧ (∀ (p : Kin W0) (b o : Nat), b < W0.heap.size → p.w.frozen? ⟨b, o, none⟩ = W0.frozen? ⟨b, o, none⟩) :=
  ⟨fun p b o hb => p.h.cell (p := ⟨b, o, none⟩) hb, fun p b o hb => p.h.frozen (p := ⟨b, o, none⟩) hb⟩
theorem kin_some (W0 : World) : Nonempty (Kin W0) := ⟨⟨W0, Below.refl _ _⟩⟩
end Go.Proofs.YtaomljdbndajgaaGreatDoor

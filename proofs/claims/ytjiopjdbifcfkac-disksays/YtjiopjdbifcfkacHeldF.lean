/- A step of a drawn region, the frame behind it written out; frames that a number of slots make up. Conditions: none. -/
import Derived.Test.YtjiopjdbifcfkacHeld
namespace Go.Proofs.Ytjiopjdbifcfkac
open Go.ChangeShapes Go.WideShapes Go.ChangeAt Go.RowKit
set_option linter.unusedVariables false

section
variable {P : Program} {md : Region.Mode} {ops : Array Oper} {Q : Exit → Act → World → Prop} {S : World → Prop}
theorem held_take2 {i : Nat} {oi : Oper} {v : Value} {fuel : Nat} {listed L : Array Bool} {a a2 : Act} {w : World} (hi : ops[i]? = some oi)
    (hs : Region.noSelect ops = true) (hf : Region.free md ops listed i = true) (hr : (Region.ready md ops listed).contains i = true)
    (hQ : ∀ c a w, Q (.panic c) (a.put oi.dst v) w → Q (.panic c) a w) (hy : YieldsIf P ops S oi v a) (hS : S w) (hL : listed.setIfInBounds i true = L) (ha : a.put oi.dst v = a2)
    (h : wpAnyH P md ops Q S fuel L a2 w) : wpAnyH P md ops Q S (fuel + 1) listed a w := held_take hi hs hf hr hQ hy hS hL (ha ▸ h)
theorem at_frame {fuel : Nat} {listed : Array Bool} {a a2 : Act} {w : World} (ha : a = a2) (h : wpAnyH P md ops Q S fuel listed a2 w) : wpAnyH P md ops Q S fuel listed a w := ha ▸ h
theorem wp_then {X : Code} {K K' : Act → World → Prop} {a : Act} {w : World} (h : X.wp P (Exit.then K Q) a w) (hk : ∀ a w, K a w → K' a w) : X.wp P (Exit.then K' Q) a w :=
  wp_mono h (fun e a w h => by
    cases e
    · exact hk _ _ h
    all_goals exact h)
end
end Go.Proofs.Ytjiopjdbifcfkac

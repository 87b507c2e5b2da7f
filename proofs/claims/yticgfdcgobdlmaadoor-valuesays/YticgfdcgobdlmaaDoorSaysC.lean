/- What the walks of ValueSays share. Conditions: the library's tables and errors lie as the program's text lays them. -/
import Derived.Test.YticgfdcgobdlmaaDoorRefTx
import Derived.Deep.DeepCutAuto
import Derived.Deep.CutBlock
import Derived.OwnWalk
namespace Go.Proofs.YticgfdcgobdlmaaDoor
open Go.RowKit
set_option linter.unusedVariables false
set_option linter.unusedSimpArgs false
attribute [local go_sem ↓] eql_value neq_value

theorem w2_below (w : World) (a b : Obj) : Below w.heap.size w ((w.alloc a).alloc b) := ((Below.refl _ _).alloc (Nat.le_refl _) _).alloc (by simp) _

theorem good_t (k n : Int) (w : World) (h : vok k n = true) : Calls Tryd.prog 19 #[.agg #[.int .i64 k, .int .i64 n]] w fun e w' => e = .returned (.bool true) ∧ Below w.heap.size w w' := by
  have := good_g k n w
  rw [h] at this
  exact this
theorem good_f (k n : Int) (w : World) (h : vok k n = false) : Calls Tryd.prog 19 #[.agg #[.int .i64 k, .int .i64 n]] w fun e w' => e = .returned (.bool false) ∧ Below w.heap.size w w' := by
  have := good_g k n w
  rw [h] at this
  exact this

end Go.Proofs.YticgfdcgobdlmaaDoor

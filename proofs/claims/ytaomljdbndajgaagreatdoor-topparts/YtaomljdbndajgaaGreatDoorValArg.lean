/- What a list of values that is handed in is: values in a row of cells. Conditions: none. -/
import Derived.Test.YtaomljdbndajgaaGreatDoorFrame3
import Derived.Test.YtaomljdbndajgaaGreatDoorBaseJ
import Derived.Test.YtaomljdbndajgaaGreatDoorValsJ
import Derived.Test.YtaomljdbndajgaaGreatDoorVals4
import Derived.Test.YtaomljdbndajgaaGreatDoorExprPureJ
import Derived.Test.YtaomljdbndajgaaGreatDoorExpr1J
import Derived.Deep.Slices
namespace Go.Proofs.YtaomljdbndajgaaGreatDoor
open Go.ChangeShapes Go.WideShapes Go.ChangeAt Go.RowKit Go.Joins Go.Deep
set_option linter.unusedVariables false

set_option maxRecDepth 100000 in
theorem two_pval {H : Type} {enc : TypeId × Value → H} {W : World} {sp : Nat → Bool} {hd : Bool} {fuel : Nat} {c d : Value} {x : DataW H × List MemPlace}
    (h : DataW.trod enc Tryz.prog W 0 sp hd fuel 26 [c, d] = some x) : ∃ m n : Int, c = .int .i64 m ∧ d = .int .i64 n := by
  obtain ⟨y0, y1, n, -, -, h0, h1⟩ := trod_struct2 Tryz.underlying26 h
  rw [cellsInt] at h0 h1
  obtain ⟨a, ea⟩ := one_int h0
  obtain ⟨b, eb⟩ := one_int h1
  exact ⟨a, b, ea, eb⟩

end Go.Proofs.YtaomljdbndajgaaGreatDoor

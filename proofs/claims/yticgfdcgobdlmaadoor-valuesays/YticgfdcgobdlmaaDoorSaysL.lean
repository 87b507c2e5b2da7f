/- The law ValueSays at a long text: it returns at once. Conditions: none. -/
import Derived.Test.YticgfdcgobdlmaaDoorSaysC
namespace Go.Proofs.YticgfdcgobdlmaaDoor
open Go.RowKit
set_option linter.unusedVariables false
set_option linter.unusedSimpArgs false

set_option maxRecDepth 100000 in
theorem says_long (k1 n1 k2 n2 n op : Int) (s : ByteArray) (w : World) (hs : 50 < s.size) :
    Calls Tryd.prog 4 #[.agg #[.int .i64 k1, .int .i64 n1], .agg #[.int .i64 k2, .int .i64 n2], .int .i64 n, .int .i64 op, .string s] w fun e w' => e = .returned (.bool true) ∧ Below w.heap.size w w' := by
  have hsi : (50 : Int) < ((s.size : Nat) : Int) := by omega
  have HB : Hid (Below ((w.alloc (.cells #[.int .i64 k1, .int .i64 n1] 32)).alloc (.cells #[.int .i64 k2, .int .i64 n2] 32)).heap.size ((w.alloc (.cells #[.int .i64 k1, .int .i64 n1] 32)).alloc (.cells #[.int .i64 k2, .int .i64 n2] 32)) ((w.alloc (.cells #[.int .i64 k1, .int .i64 n1] 32)).alloc (.cells #[.int .i64 k2, .int .i64 n2] 32))) := Below.refl _ _
  go_enter Tryd.func4, Tryd.ntmps4
  go_wp2_with (go_at_call 9; refine (values_g _).mono ?_; rintro e w1 ⟨rfl, hb⟩; have HB := nxt HB hb; obtain ⟨hc, hf⟩ := rules HB; clear hb)
  go_ret
  exact ⟨rfl, done (w2_below _ _ _) HB⟩
end Go.Proofs.YticgfdcgobdlmaaDoor

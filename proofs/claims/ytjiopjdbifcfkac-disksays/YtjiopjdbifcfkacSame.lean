/- The contract of penstocklaw.same, over this seat's translation: an error is told by its number. Conditions: none. -/
import Derived.Test.YtjiopjdbifcfkacRows
import Derived.Test.YtjiopjdbifcfkacKin
import Derived.ProofKit
import Derived.OpenShut
import Derived.OwnWalk
import Derived.Outline
namespace Go.Proofs.Ytjiopjdbifcfkac
open Go.RowKit
set_option linter.unusedVariables false
set_option linter.unusedSimpArgs false

theorem same_nil (f : Int) (w : World) :
    Calls Try.prog 9 #[.nilIface, .int .i64 f] w fun e w' => e = .returned (.bool (f == 0)) ∧ w' = w := by
  go_enter Try.func9, Try.ntmps9
  go_wp2
  go_ret
  exact ⟨rfl, rfl⟩

theorem assert_errno (c : Int) (w : World) : (Instr.typeAssert (.iface 54 (.int .i64 c)) 27 54 true).run Try.prog w = .ok (.tuple #[.int .i64 c, .bool true]) w := by kernel_rfl

set_option maxRecDepth 100000 in
theorem same_err (c f : Int) (w : World) (hc : 0 < c) :
    Calls Try.prog 9 #[.iface 54 (.int .i64 c), .int .i64 f] w fun e w' => e = .returned (.bool (c == f)) ∧ w' = w := by
  have ta := fun w => assert_errno c w
  by_cases hf : 0 < f
  · go_enter Try.func9, Try.ntmps9
    go_wp2
    go_ret
    exact ⟨rfl, rfl⟩
  · have hd : decide (0 < f) = false := by simp; omega
    have hg : (c == f) = false := by simp; omega
    rw [hg]
    clear hg
    go_enter Try.func9, Try.ntmps9
    go_wp2
    go_ret
    exact ⟨rfl, rfl⟩
end Go.Proofs.Ytjiopjdbifcfkac

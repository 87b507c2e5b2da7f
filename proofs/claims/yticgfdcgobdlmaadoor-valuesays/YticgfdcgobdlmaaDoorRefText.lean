/- The contracts of penstockref.Decimal and ValueText, over this seat's translation. Conditions: a number from -1000000000 to 1000000000. -/
import Derived.Test.YticgfdcgobdlmaaDoorVals4
import Derived.Test.YticgfdcgobdlmaaDoorNatPure
import Derived.Test.YticgfdcgobdlmaaDoorTextV
import Derived.Deep.RegionWith
import Derived.Laws.BytesArg
namespace Go.Proofs.YticgfdcgobdlmaaDoor
open Go.RowKit
set_option linter.unusedVariables false
set_option linter.unusedSimpArgs false
attribute [local go_sem ↓] eql_value neq_value

theorem hidR {p : Prop} (h : p) : Hid p := h

theorem conv_one (W : World) (b : Nat) (d : Int) (h : W.cell? ⟨b, 0, none⟩ = some (.int .u8 d)) : (convert 65 9 (.slice (some ⟨b, 0, none⟩) 1 1)).run Tryd.prog W = .ok (.string ⟨#[UInt8.ofNat d.toNat]⟩) W :=
  run_convert_bytes_arg W 65 5 (by kernel_rfl) (by kernel_rfl) b 0 1 1 [d] rfl (fun i hi => by
    obtain rfl : i = 0 := by omega
    exact h) 9 (by kernel_rfl)

set_option maxRecDepth 100000 in
theorem dec_small (n : Int) (w : World) (h0 : 0 ≤ n) (h1 : n < 10) :
    Calls Tryd.prog 35 #[.int .i64 n] w fun e w' => e = .returned (.string ⟨#[UInt8.ofNat (48 + n).toNat]⟩) ∧ Below w.heap.size w w' := by
  have hcv := conv_one (w.alloc (.cells #[.int .u8 (48 + n)] 5)) w.heap.size (48 + n) (by go_simp)
  go_enter Tryd.func35, Tryd.ntmps35
  go_wp2_with fail
  go_ret
  exact ⟨rfl, (Below.refl _ _).alloc (Nat.le_refl _) _⟩

theorem dec_neg (n : Int) (l : List UInt8) (w : World) (h0 : n < 0) (h1 : -1000000000 ≤ n) (hl : l.length ≤ 12) (ih : ∀ w, Calls Tryd.prog 35 #[.int .i64 (-n)] w fun e w' => e = .returned (.string ⟨l.toArray⟩) ∧ Below w.heap.size w w') :
    Calls Tryd.prog 35 #[.int .i64 n] w fun e w' => e = .returned (.string (⟨#[45]⟩ ++ ⟨l.toArray⟩)) ∧ Below w.heap.size w w' := by
  have IH := hidR ih
  clear ih
  go_enter Tryd.func35, Tryd.ntmps35
  go_wp2_with fail
  refine (IH.out _).mono ?_
  rintro e w1 ⟨rfl, hb⟩
  have HB := hidR hb
  clear hb
  go_wp2_with fail
  go_ret
  exact ⟨rfl, HB.out⟩
end Go.Proofs.YticgfdcgobdlmaaDoor

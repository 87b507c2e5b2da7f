/- Contracts of the functions of package value (of comparing), over this seat's translation: what each returns, for every argument, and that nothing that was there has turned. Conditions: none. -/
import Derived.Test.YtepfpmagppckeaaRows
import Derived.WalkKit
import Derived.ProofKit
import Derived.OpenShut
import Derived.ShutString
import Derived.ChangeOld
import Derived.Below
import Derived.Outline
namespace Go.Proofs.Ytepfpmagppckeaa
open Go.ChangeShapes Go.WideShapes Go.ChangeAt Go.RowKit
set_option linter.unusedVariables false
set_option linter.unusedSimpArgs false

theorem bcell {W w1 : World} (hb : Below W.heap.size W w1) : (∀ b o, b < W.heap.size → w1.cell? ⟨b, o, none⟩ = W.cell? ⟨b, o, none⟩) ∧ (∀ b o, b < W.heap.size → w1.frozen? ⟨b, o, none⟩ = W.frozen? ⟨b, o, none⟩) :=
  ⟨fun b o h => hb.cell (p := ⟨b, o, none⟩) h, fun b o h => hb.frozen (p := ⟨b, o, none⟩) h⟩

/-- behind a call that kept all that was there: what W0 had, the world behind it still has -/
theorem nxt {W0 wx wy : World} (h : Hid (Below W0.heap.size W0 wx)) (hb : Below wx.heap.size wx wy) : Hid (Below W0.heap.size W0 wy) := h.out.trans (hb.mono h.out.size)
theorem nxtd {W0 wx : World} (h : Hid (Below W0.heap.size W0 wx)) : Hid (Below W0.heap.size W0 wx.drew) := h.out.drew
theorem nxta {W0 wx : World} (h : Hid (Below W0.heap.size W0 wx)) (o : Obj) : Hid (Below W0.heap.size W0 (wx.alloc o)) := h.out.alloc h.out.size o
theorem rules {W0 wx : World} (h : Hid (Below W0.heap.size W0 wx)) : (∀ b o, b < W0.heap.size → wx.cell? ⟨b, o, none⟩ = W0.cell? ⟨b, o, none⟩) ∧ (∀ b o, b < W0.heap.size → wx.frozen? ⟨b, o, none⟩ = W0.frozen? ⟨b, o, none⟩) := bcell h.out
theorem done {w W0 wx : World} (h0 : Below w.heap.size w W0) (h : Hid (Below W0.heap.size W0 wx)) : Below w.heap.size w wx := h0.trans (h.out.mono h0.size)

theorem ret_int {k : IntKind} {a b : Int} (h : a = b) : Ending.returned (.int k a) = .returned (.int k b) := by rw [h]

/-- what cmp.Compare says of two numbers -/
def cmpI (a b : Int) : Int := if a < b then -1 else if b < a then 1 else 0
/-- what value.Compare says -/
def vcmp (k1 n1 k2 n2 : Int) : Int := if k1 = k2 then cmpI n1 n2 else cmpI k1 k2

theorem cmp_any (a b : Int) (w : World) :
    Calls Try.prog 57 #[.int .i64 a, .int .i64 b] w fun e w' => e = .returned (.int .i64 (cmpI a b)) ∧ w' = w := by
  by_cases h1 : a < b
  · go_enter Try.func57, Try.ntmps57
    go_wp2
    go_ret
    exact ⟨ret_int (by unfold cmpI; rw [if_pos h1]), rfl⟩
  · by_cases h2 : b < a
    · go_enter Try.func57, Try.ntmps57
      go_wp2
      go_ret
      exact ⟨ret_int (by unfold cmpI; rw [if_neg (by omega), if_pos h2]), rfl⟩
    · go_enter Try.func57, Try.ntmps57
      go_wp2
      go_ret
      exact ⟨ret_int (by unfold cmpI; rw [if_neg (by omega), if_neg (by omega)]), rfl⟩

theorem compare_any (k1 n1 k2 n2 : Int) (w : World) :
    Calls Try.prog 37 #[.agg #[.int .i64 k1, .int .i64 n1], .agg #[.int .i64 k2, .int .i64 n2]] w fun e w' => e = .returned (.int .i64 (vcmp k1 n1 k2 n2)) ∧ Below w.heap.size w w' := by
  by_cases h : k1 = k2
  · subst h
    have hb : (k1 != k1) = false := by simp
    go_enter Try.func37, Try.ntmps37
    go_wp2_with (go_at_call 57; refine (cmp_any _ _ _).mono ?_; rintro e w' ⟨rfl, rfl⟩)
    go_ret
    exact ⟨ret_int (by unfold vcmp; rw [if_pos rfl]), ((Below.refl _ _).alloc (Nat.le_refl _) _).alloc (by simp) _⟩
  · have hb : (k1 != k2) = true := by simp [h]
    go_enter Try.func37, Try.ntmps37
    go_wp2_with (go_at_call 57; refine (cmp_any _ _ _).mono ?_; rintro e w' ⟨rfl, rfl⟩)
    go_ret
    exact ⟨ret_int (by unfold vcmp; rw [if_neg h]), ((Below.refl _ _).alloc (Nat.le_refl _) _).alloc (by simp) _⟩
end Go.Proofs.Ytepfpmagppckeaa

/- Contracts of Arity and lastFirst of package expr, over this seat's translation. Conditions: none. -/
import Derived.Test.YteaanpdckkmjoaaGreatDoorValsJ
import Derived.Test.YteaanpdckkmjoaaGreatDoorLex1J
import Derived.Test.YteaanpdckkmjoaaGreatDoorExprPureJ
import Derived.OwnWalk
namespace Go.Proofs.YteaanpdckkmjoaaGreatDoor
open Go.ChangeShapes Go.WideShapes Go.ChangeAt Go.RowKit
set_option linter.unusedVariables false
set_option linter.unusedSimpArgs false

theorem arity_any (op : Int) (w : World) :
    Calls Tryz.prog 103 #[.int .i64 op] w fun e w' => e = .returned (.int .i64 (ar op)) ∧ w' = w := by
  by_cases h : 1 ≤ op ∧ op ≤ 12
  · rcases (by omega : op = 1 ∨ op = 2 ∨ op = 3 ∨ op = 4 ∨ op = 5 ∨ op = 6 ∨ op = 7 ∨ op = 8 ∨ op = 9 ∨ op = 10 ∨ op = 11 ∨ op = 12) with rfl | rfl | rfl | rfl | rfl | rfl | rfl | rfl | rfl | rfl | rfl | rfl
    all_goals
      clear h
      go_enter Tryz.func103, Tryz.ntmps103
      go_wp2
      go_ret
      exact ⟨rfl, rfl⟩
  · have e : ar op = -1 := by unfold ar; rw [if_neg (by omega), if_neg (by omega), if_neg (by omega)]
    rw [e]
    have h1 : (op == 1) = false := by simp; omega
    have h2 : (op == 2) = false := by simp; omega
    have h3 : (op == 3) = false := by simp; omega
    have h4 : (op == 4) = false := by simp; omega
    have h5 : (op == 5) = false := by simp; omega
    have h6 : (op == 6) = false := by simp; omega
    have h7 : (op == 7) = false := by simp; omega
    have h8 : (op == 8) = false := by simp; omega
    have h9 : (op == 9) = false := by simp; omega
    have h10 : (op == 10) = false := by simp; omega
    have h11 : (op == 11) = false := by simp; omega
    have h12 : (op == 12) = false := by simp; omega
    clear h e
    go_enter Tryz.func103, Tryz.ntmps103
    go_wp2
    go_ret
    exact ⟨rfl, rfl⟩

/-- a node as a value, and as cells -/
def aggN (n : Nd) : Value := .agg #[.int .i64 n.op, .int .i64 n.x, .int .i64 n.y, .int .i64 n.n, .int .i64 n.k, .int .i64 n.v]
def cellsN (n : Nd) : List Value := [.int .i64 n.op, .int .i64 n.x, .int .i64 n.y, .int .i64 n.n, .int .i64 n.k, .int .i64 n.v]
/-- a node's parts, the last one first -/
def partsN (n : Nd) : List Int := if ar n.op = 1 then [n.x] else if ar n.op = 2 then [n.y, n.x] else []

theorem lastFirst_any (n : Nd) (w : World) :
    Calls Tryz.prog 106 #[aggN n] w fun e w' => ∃ v, e = .returned v ∧ RowG w' v 1 (partsN n).length ((partsN n).map (Value.int .i64)) ∧ Below w.heap.size w w' := by
  obtain ⟨op, x, y, nn, k, v⟩ := n
  unfold aggN partsN
  simp only
  by_cases h1 : ar op = 1
  · have b1 : (ar op == 1) = true := by simp [h1]
    rw [if_pos h1]
    clear h1
    go_enter Tryz.func106, Tryz.ntmps106
    go_wp2_with (go_at_call 103; refine (arity_any _ _).mono ?_; rintro e w' ⟨rfl, rfl⟩)
    go_ret
    exact ⟨_, rfl, rowG_lit _ _ [.int .i64 x] _ 1 (by simp) rfl (by decide), ((Below.refl _ _).alloc (Nat.le_refl _) _).alloc (by simp) _⟩
  · have b1 : (ar op == 1) = false := by simp [h1]
    rw [if_neg h1]
    clear h1
    by_cases h2 : ar op = 2
    · have b2 : (ar op == 2) = true := by simp [h2]
      rw [if_pos h2]
      clear h2
      go_enter Tryz.func106, Tryz.ntmps106
      go_wp2_with (go_at_call 103; refine (arity_any _ _).mono ?_; rintro e w' ⟨rfl, rfl⟩)
      go_ret
      exact ⟨_, rfl, rowG_lit _ _ [.int .i64 y, .int .i64 x] _ 2 (by simp) rfl (by decide), ((Below.refl _ _).alloc (Nat.le_refl _) _).alloc (by simp) _⟩
    · have b2 : (ar op == 2) = false := by simp [h2]
      rw [if_neg h2]
      clear h2
      go_enter Tryz.func106, Tryz.ntmps106
      go_wp2_with (go_at_call 103; refine (arity_any _ _).mono ?_; rintro e w' ⟨rfl, rfl⟩)
      go_ret
      exact ⟨_, rfl, ⟨rfl, .inl ⟨⟨_, _, rfl⟩, rfl⟩⟩, (Below.refl _ _).alloc (Nat.le_refl _) _⟩
end Go.Proofs.YteaanpdckkmjoaaGreatDoor

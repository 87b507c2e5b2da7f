/- Several texts in one, each with its own head. What is proved: what the parts say. Conditions: theirs. -/
import Derived.Test.YteaanpdckkmjoaaGreatDoorRows
import Derived.Test.YteaanpdckkmjoaaGreatDoorLex1J
import Derived.WalkKit
import Derived.ProofKit
import Derived.OpenShut
import Derived.ShutString
import Derived.ChangeOld
import Derived.Below
import Derived.Outline
import Derived.Deep.QuietTactic
import Derived.BigQuiet
import Derived.RegionTactic
import Derived.Deep.RegionWith
import Derived.Test.YteaanpdckkmjoaaGreatDoorKinJ
/- Contracts of the functions of package value (of comparing), over this seat's translation: what each returns, for every argument, and that nothing that was there has turned. Conditions: none. -/
namespace Go.Proofs.YteaanpdckkmjoaaGreatDoor
open Go.ChangeShapes Go.WideShapes Go.ChangeAt Go.RowKit
set_option linter.unusedVariables false
set_option linter.unusedSimpArgs false

theorem ret_int {k : IntKind} {a b : Int} (h : a = b) : Ending.returned (.int k a) = .returned (.int k b) := by rw [h]

/-- what cmp.Compare says of two numbers -/
def cmpI (a b : Int) : Int := if a < b then -1 else if b < a then 1 else 0
/-- what value.Compare says -/
def vcmp (k1 n1 k2 n2 : Int) : Int := if k1 = k2 then cmpI n1 n2 else cmpI k1 k2

end Go.Proofs.YteaanpdckkmjoaaGreatDoor
/- Contracts of the functions of package value (made and checked), over this seat's translation: what each returns, for every argument. Conditions: none. -/
namespace Go.Proofs.YteaanpdckkmjoaaGreatDoor
open Go.ChangeShapes Go.WideShapes Go.ChangeAt Go.RowKit
set_option linter.unusedVariables false
set_option linter.unusedSimpArgs false

theorem null_any (w : World) :
    Calls Tryz.prog 104 #[] w fun e w' => e = .returned (.agg #[.int .i64 0, .int .i64 0]) ∧ w' = w.alloc (.cells #[.int .i64 0, .int .i64 0] 89) := by
  go_enter Tryz.func104, Tryz.ntmps104
  go_wp2
  exact bodyPost_ret (v := .agg #[.int .i64 0, .int .i64 0]) (by simp [results, Tryz.results104, go_sem]) rfl ⟨rfl, rfl⟩

theorem truth_any (b : Bool) (w : World) :
    Calls Tryz.prog 108 #[.bool b] w fun e w' => e = .returned (.agg #[.int .i64 2, .int .i64 (if b then 1 else 0)]) ∧ w' = w.alloc (.cells #[.int .i64 2, .int .i64 (if b then 1 else 0)] 89) := by
  cases b
  · go_enter Tryz.func108, Tryz.ntmps108
    go_wp2
    exact bodyPost_ret (v := .agg #[.int .i64 2, .int .i64 0]) (by simp [results, Tryz.results108, go_sem]) rfl ⟨rfl, rfl⟩
  · go_enter Tryz.func108, Tryz.ntmps108
    go_wp2
    exact bodyPost_ret (v := .agg #[.int .i64 2, .int .i64 1]) (by simp [results, Tryz.results108, go_sem]) rfl ⟨rfl, rfl⟩

theorem null_b (w : World) :
    Calls Tryz.prog 104 #[] w fun e w' => e = .returned (.agg #[.int .i64 0, .int .i64 0]) ∧ Below w.heap.size w w' :=
  (null_any w).mono fun e w' ⟨h1, h2⟩ => ⟨h1, by rw [h2]; exact (Below.refl _ _).alloc (Nat.le_refl _) _⟩

/-- what value.Number says -/
def numK (n : Int) : Int := if -1000000000 ≤ n ∧ n ≤ 1000000000 then 1 else 0
def numN (n : Int) : Int := if -1000000000 ≤ n ∧ n ≤ 1000000000 then n else 0

theorem number_any (n : Int) (w : World) :
    Calls Tryz.prog 109 #[.int .i64 n] w fun e w' => e = .returned (.agg #[.int .i64 (numK n), .int .i64 (numN n)]) ∧ Below w.heap.size w w' := by
  by_cases h1 : n < -1000000000
  · have e1 : numK n = 0 := by unfold numK; rw [if_neg (by omega)]
    have e2 : numN n = 0 := by unfold numN; rw [if_neg (by omega)]
    rw [e1, e2]; clear e1 e2
    go_enter Tryz.func109, Tryz.ntmps109
    go_wp2_with (go_at_call 104; refine (null_any _).mono ?_; rintro e w' ⟨rfl, rfl⟩)
    refine bodyPost_ret (v := .agg #[.int .i64 0, .int .i64 0]) (by simp [results, Tryz.results109, go_sem]) rfl ⟨rfl, ?_⟩
    repeat (first | exact Below.refl _ _ | refine Below.alloc ?_ (by simp) _ | refine Below.setCell ?_ (by simp) _)
  · by_cases h2 : 1000000000 < n
    · have e1 : numK n = 0 := by unfold numK; rw [if_neg (by omega)]
      have e2 : numN n = 0 := by unfold numN; rw [if_neg (by omega)]
      rw [e1, e2]; clear e1 e2
      go_enter Tryz.func109, Tryz.ntmps109
      go_wp2_with (go_at_call 104; refine (null_any _).mono ?_; rintro e w' ⟨rfl, rfl⟩)
      refine bodyPost_ret (v := .agg #[.int .i64 0, .int .i64 0]) (by simp [results, Tryz.results109, go_sem]) rfl ⟨rfl, ?_⟩
      repeat (first | exact Below.refl _ _ | refine Below.alloc ?_ (by simp) _ | refine Below.setCell ?_ (by simp) _)
    · have e1 : numK n = 1 := by unfold numK; rw [if_pos (by omega)]
      have e2 : numN n = n := by unfold numN; rw [if_pos (by omega)]
      rw [e1, e2]; clear e1 e2
      go_enter Tryz.func109, Tryz.ntmps109
      go_wp2
      refine bodyPost_ret (v := .agg #[.int .i64 1, .int .i64 n]) (by simp [results, Tryz.results109, go_sem]) rfl ⟨rfl, ?_⟩
      repeat (first | exact Below.refl _ _ | refine Below.alloc ?_ (by simp) _ | refine Below.setCell ?_ (by simp) _)

/-- may a value be? -/
def vok (k n : Int) : Bool := decide ((k = 0 ∧ n = 0) ∨ (k = 1 ∧ -1000000000 ≤ n ∧ n ≤ 1000000000) ∨ (k = 2 ∧ (n = 0 ∨ n = 1)))

theorem check_yes (k n : Int) (w : World) (h : vok k n = true) :
    Calls Tryz.prog 105 #[.agg #[.int .i64 k, .int .i64 n]] w fun e w' => e = .returned .nilIface ∧ Below w.heap.size w w' := by
  have h' := of_decide_eq_true h
  clear h
  rcases h' with ⟨rfl, rfl⟩ | ⟨rfl, h1, h2⟩ | ⟨rfl, rfl | rfl⟩
  all_goals
    go_enter Tryz.func105, Tryz.ntmps105
    go_wp2
    go_ret
    exact ⟨rfl, (Below.refl _ _).alloc (Nat.le_refl _) _⟩

theorem check_no (k n : Int) (w : World) (h : vok k n = false) :
    Calls Tryz.prog 105 #[.agg #[.int .i64 k, .int .i64 n]] w fun e w' => e = .returned (.iface 48 (.int .i64 3)) ∧ Below w.heap.size w w' := by
  have h' := of_decide_eq_false h
  clear h
  by_cases k0 : k = 0
  · subst k0
    have hn : (n == 0) = false := by simp; omega
    clear h'
    go_enter Tryz.func105, Tryz.ntmps105
    go_wp2
    go_ret
    exact ⟨rfl, (Below.refl _ _).alloc (Nat.le_refl _) _⟩
  · by_cases k1 : k = 1
    · subst k1
      by_cases l : -1000000000 ≤ n
      · have l2 : decide (n ≤ 1000000000) = false := by simp; omega
        clear h' k0
        go_enter Tryz.func105, Tryz.ntmps105
        go_wp2
        go_ret
        exact ⟨rfl, (Below.refl _ _).alloc (Nat.le_refl _) _⟩
      · clear h' k0
        go_enter Tryz.func105, Tryz.ntmps105
        go_wp2
        go_ret
        exact ⟨rfl, (Below.refl _ _).alloc (Nat.le_refl _) _⟩
    · by_cases k2 : k = 2
      · subst k2
        have a1 : (n == 0) = false := by simp; omega
        have a2 : (n == 1) = false := by simp; omega
        clear h' k0 k1
        go_enter Tryz.func105, Tryz.ntmps105
        go_wp2
        go_ret
        exact ⟨rfl, (Below.refl _ _).alloc (Nat.le_refl _) _⟩
      · have a0 : (k == 0) = false := by simp; omega
        have a1 : (k == 1) = false := by simp; omega
        have a2 : (k == 2) = false := by simp; omega
        clear h' k0 k1 k2
        go_enter Tryz.func105, Tryz.ntmps105
        go_wp2
        go_ret
        exact ⟨rfl, (Below.refl _ _).alloc (Nat.le_refl _) _⟩

theorem eql_value (w : World) (a b c d : Int) : (binOp .eql 89 (.agg #[.int .i64 a, .int .i64 b]) (.agg #[.int .i64 c, .int .i64 d])).run Tryz.prog w = .ok (.bool (a == c && b == d)) w := by
  by_cases h : a = c
  · subst h
    by_cases h2 : b = d
    · subst h2; go_simp
    · have : (b == d) = false := by simp [h2]
      go_simp
  · have : (a == c) = false := by simp [h]
    go_simp

theorem neq_value (w : World) (a b c d : Int) : (binOp .neq 89 (.agg #[.int .i64 a, .int .i64 b]) (.agg #[.int .i64 c, .int .i64 d])).run Tryz.prog w = .ok (.bool (!(a == c && b == d))) w := by
  by_cases h : a = c
  · subst h
    by_cases h2 : b = d
    · subst h2; go_simp
    · have : (b == d) = false := by simp [h2]
      go_simp
  · have : (a == c) = false := by simp [h]
    go_simp

end Go.Proofs.YteaanpdckkmjoaaGreatDoor
/- Contracts of value.And and value.or, over this seat's translation: what each returns, for every two values. Conditions: none. -/
namespace Go.Proofs.YteaanpdckkmjoaaGreatDoor
open Go.ChangeShapes Go.WideShapes Go.ChangeAt Go.RowKit
set_option linter.unusedVariables false
set_option linter.unusedSimpArgs false

/-- is a value false? true? -/
def isF (k n : Int) : Bool := k == 2 && n == 0
def isT (k n : Int) : Bool := k == 2 && n == 1
/-- what value.And and value.or say -/
def andK (k1 n1 k2 n2 : Int) : Int := if isF k1 n1 || isF k2 n2 then 2 else if isT k1 n1 && isT k2 n2 then 2 else 0
def andN (k1 n1 k2 n2 : Int) : Int := if isF k1 n1 || isF k2 n2 then 0 else if isT k1 n1 && isT k2 n2 then 1 else 0
def orK (k1 n1 k2 n2 : Int) : Int := if isT k1 n1 || isT k2 n2 then 2 else if isF k1 n1 && isF k2 n2 then 2 else 0
def orN (k1 n1 k2 n2 : Int) : Int := if isT k1 n1 || isT k2 n2 then 1 else 0

attribute [local go_sem ↓] eql_value neq_value

theorem w3_below (w : World) (a b c : Obj) : Below w.heap.size w (((w.alloc a).alloc b).alloc c) := ((((Below.refl _ _).alloc (Nat.le_refl _) _).alloc (by simp) _).alloc (by simp; omega) _)

theorem truth_bel (b : Bool) (w : World) :
    Calls Tryz.prog 108 #[.bool b] w fun e w' => e = .returned (.agg #[.int .i64 2, .int .i64 (if b then 1 else 0)]) ∧ Below w.heap.size w w' :=
  (truth_any b w).mono fun e w' ⟨h1, h2⟩ => ⟨h1, by rw [h2]; exact (Below.refl _ _).alloc (Nat.le_refl _) _⟩

end Go.Proofs.YteaanpdckkmjoaaGreatDoor
/- Contracts of value.Do, value.Not and value.Neg, over this seat's translation: what each returns. Conditions: each N is from -1000000000 to 1000000000 (Do, Neg), as it is in a value that may be. -/
namespace Go.Proofs.YteaanpdckkmjoaaGreatDoor
open Go.ChangeShapes Go.WideShapes Go.ChangeAt Go.RowKit
set_option linter.unusedVariables false
set_option linter.unusedSimpArgs false

/-- a truth's N -/
def b01 (b : Bool) : Int := if b then 1 else 0

theorem truth_b (b : Bool) (w : World) :
    Calls Tryz.prog 108 #[.bool b] w fun e w' => e = .returned (.agg #[.int .i64 2, .int .i64 (b01 b)]) ∧ w' = w.alloc (.cells #[.int .i64 2, .int .i64 (b01 b)] 89) := by
  cases b
  · exact truth_any false w
  · exact truth_any true w

theorem truth_bb (b : Bool) (w : World) :
    Calls Tryz.prog 108 #[.bool b] w fun e w' => e = .returned (.agg #[.int .i64 2, .int .i64 (b01 b)]) ∧ Below w.heap.size w w' :=
  (truth_b b w).mono fun e w' ⟨h1, h2⟩ => ⟨h1, by rw [h2]; exact (Below.refl _ _).alloc (Nat.le_refl _) _⟩

/-- what value.Number, Do, Not and Neg say, of pairs (Kind, N) -/
def numV (n : Int) : Int × Int := (numK n, numN n)
def tru (b : Bool) : Int × Int := (2, b01 b)
def doV (op k1 n1 k2 n2 : Int) : Int × Int :=
  if op = 9 then (andK k1 n1 k2 n2, andN k1 n1 k2 n2) else if op = 10 then (orK k1 n1 k2 n2, orN k1 n1 k2 n2) else
  if k1 = 1 ∧ k2 = 1 then
    if op = 6 then numV (n1 + n2) else if op = 7 then numV (n1 - n2) else if op = 8 then numV (n1 * n2) else
    if op = 11 then tru (decide (n1 < n2)) else if op = 12 then tru (n1 == n2) else (0, 0)
  else (0, 0)
def notV (k n : Int) : Int × Int := if k = 2 then tru (n == 0) else (0, 0)
def negV (k n : Int) : Int × Int := if k = 1 then numV (-n) else (0, 0)

theorem neg_any (k n : Int) (w : World) (h1 : -1000000000 ≤ n) (h2 : n ≤ 1000000000) :
    Calls Tryz.prog 92 #[.agg #[.int .i64 k, .int .i64 n]] w fun e w' => e = .returned (.agg #[.int .i64 (negV k n).1, .int .i64 (negV k n).2]) ∧ Below w.heap.size w w' := by
  by_cases h : k = 1
  · have e1 : negV k n = numV (-n) := by unfold negV; rw [if_pos h]
    rw [e1]; clear e1
    subst h
    unfold numV
    dsimp only
    go_enter Tryz.func92, Tryz.ntmps92
    go_wp2_with fail
    refine (number_any _ _).mono ?_
    rintro e w1 ⟨rfl, hb1⟩
    have HB : Hid _ := hb1
    obtain ⟨hc, hf⟩ := bcell hb1
    have hz := hb1.size
    clear hb1
    simp only [World.size_alloc] at hc hf hz
    go_wp2
    refine bodyPost_ret (v := .agg #[.int .i64 (numK (-n)), .int .i64 (numN (-n))]) (by simp [results, Tryz.results92, go_sem, hc, hf]) rfl ⟨rfl, ?_⟩
    exact ((((((Below.refl _ _).alloc (Nat.le_refl _) _).alloc (by simp) _).trans (HB.out.mono (by simp; omega)))).setCell (by simp) _).setCell (by simp) _
  · have e1 : negV k n = (0, 0) := by unfold negV; rw [if_neg h]
    rw [e1]; clear e1
    have hk : (k != 1) = true := by simp [h]
    clear h
    go_enter Tryz.func92, Tryz.ntmps92
    go_wp2_with (go_at_call 104; refine (null_any _).mono ?_; rintro e w' ⟨rfl, rfl⟩)
    refine bodyPost_ret (v := .agg #[.int .i64 0, .int .i64 0]) (by simp [results, Tryz.results92, go_sem]) rfl ⟨rfl, ?_⟩
    repeat (first | exact Below.refl _ _ | assumption | refine Below.drew ?_ | refine Below.alloc ?_ (by simp <;> omega) _ | refine Below.setCell ?_ (by simp <;> omega) _)
theorem mul_hi (a b : Int) (a1 : -1000000000 ≤ a) (a2 : a ≤ 1000000000) (a3 : -1000000000 ≤ b) (a4 : b ≤ 1000000000) : a * b ≤ 1000000000000000000 := by
  have h1 : 0 ≤ (1000000000 - a) * (1000000000 + b) := Int.mul_nonneg (by omega) (by omega)
  have h2 : 0 ≤ (1000000000 + a) * (1000000000 - b) := Int.mul_nonneg (by omega) (by omega)
  simp only [Int.sub_mul, Int.mul_add, Int.add_mul, Int.mul_sub] at h1 h2
  omega
theorem mul_lo (a b : Int) (a1 : -1000000000 ≤ a) (a2 : a ≤ 1000000000) (a3 : -1000000000 ≤ b) (a4 : b ≤ 1000000000) : -1000000000000000000 ≤ a * b := by
  have h := mul_hi (-a) b (by omega) (by omega) a3 a4
  rw [Int.neg_mul] at h
  omega

end Go.Proofs.YteaanpdckkmjoaaGreatDoor

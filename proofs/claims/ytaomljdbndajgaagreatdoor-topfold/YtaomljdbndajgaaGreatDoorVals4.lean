/- Contracts of value.Do, value.Not and value.Neg, over this seat's translation: what each returns. Conditions: each N is from -1000000000 to 1000000000 (Do, Neg), as it is in a value that may be. -/
import Derived.Test.YtaomljdbndajgaaGreatDoorVals2J
set_option linter.unusedVariables false
set_option linter.unusedSimpArgs false
set_option maxRecDepth 100000
set_option maxHeartbeats 8000000
namespace Go.Proofs.YtaomljdbndajgaaGreatDoor
open Go.ChangeShapes Go.WideShapes Go.ChangeAt Go.RowKit
def b01 (b : Bool) : Int:=if b then 1 else 0
theorem truth_b (b : Bool) (w : World) :
  Calls Tryz.prog 7 #[.bool b] w fun e w' => e = .returned (.agg #[.int .i64 2,.int .i64 (b01 b)]) ∧ w' = w.alloc (.cells #[.int .i64 2,.int .i64 (b01 b)] 26):=by
 cases b
 ·exact truth_any false w
 ·exact truth_any true w
theorem truth_bb (b : Bool) (w : World) :
  Calls Tryz.prog 7 #[.bool b] w fun e w' => e = .returned (.agg #[.int .i64 2,.int .i64 (b01 b)]) ∧ Below w.heap.size w w' :=
 (truth_b b w).mono fun e w' ⟨h1,h2⟩ => ⟨h1,by rw [h2];exact (Below.refl _ _).alloc (Nat.le_refl _) _⟩
def numV (n : Int) : Int × Int:=(numK n,numN n)
def tru (b : Bool) : Int × Int:=(2,b01 b)
def doV (op k1 n1 k2 n2 : Int) : Int × Int :=
 if op = 9 then (andK k1 n1 k2 n2,andN k1 n1 k2 n2) else if op = 10 then (orK k1 n1 k2 n2,orN k1 n1 k2 n2) else
 if k1 = 1 ∧ k2 = 1 then
  if op = 6 then numV (n1 + n2) else if op = 7 then numV (n1 - n2) else if op = 8 then numV (n1 * n2) else
  if op = 11 then tru (decide (n1 < n2)) else if op = 12 then tru (n1 == n2) else (0,0)
 else (0,0)
def notV (k n : Int) : Int × Int:=if k = 2 then tru (n == 0) else (0,0)
def negV (k n : Int) : Int × Int:=if k = 1 then numV (-n) else (0,0)
theorem not_any (k n : Int) (w : World) :
  Calls Tryz.prog 110 #[.agg #[.int .i64 k,.int .i64 n]] w fun e w' => e = .returned (.agg #[.int .i64 (notV k n).1,.int .i64 (notV k n).2]) ∧ Below w.heap.size w w':=by
 by_cases h : k = 2
 ·have e1 : notV k n = tru (n == 0):=by unfold notV;rw [if_pos h]
  rw [e1];clear e1
  subst h
  unfold tru
  dsimp only
  go_enter Tryz.func110,Tryz.ntmps110
  go_wp2_with (go_at_call 7;refine (truth_b _ _).mono ?_;rintro e w' ⟨rfl,rfl⟩)
  refine bodyPost_ret (v:=.agg #[.int .i64 2,.int .i64 (b01 (n == 0))]) (by simp [results,Tryz.results110,go_sem]) rfl ⟨rfl,?_⟩
  repeat (first | exact Below.refl _ _ | assumption | refine Below.drew ?_ | refine Below.alloc ?_ (by simp <;> omega) _ | refine Below.setCell ?_ (by simp <;> omega) _)
 ·have e1 : notV k n = (0,0):=by unfold notV;rw [if_neg h]
  rw [e1];clear e1
  have hk : (k != 2) = true:=by simp [h]
  clear h
  go_enter Tryz.func110,Tryz.ntmps110
  go_wp2_with (go_at_call 57;refine (null_any _).mono ?_;rintro e w' ⟨rfl,rfl⟩)
  refine bodyPost_ret (v:=.agg #[.int .i64 0,.int .i64 0]) (by simp [results,Tryz.results110,go_sem]) rfl ⟨rfl,?_⟩
  repeat (first | exact Below.refl _ _ | assumption | refine Below.drew ?_ | refine Below.alloc ?_ (by simp <;> omega) _ | refine Below.setCell ?_ (by simp <;> omega) _)
theorem neg_any (k n : Int) (w : World) (h1 : -1000000000 ≤ n) (h2 : n ≤ 1000000000) :
  Calls Tryz.prog 109 #[.agg #[.int .i64 k,.int .i64 n]] w fun e w' => e = .returned (.agg #[.int .i64 (negV k n).1,.int .i64 (negV k n).2]) ∧ Below w.heap.size w w':=by
 by_cases h : k = 1
 ·have e1 : negV k n = numV (-n):=by unfold negV;rw [if_pos h]
  rw [e1];clear e1
  subst h
  unfold numV
  dsimp only
  go_enter Tryz.func109,Tryz.ntmps109
  go_wp2_with fail
  refine (number_any _ _).mono ?_
  rintro e w1 ⟨rfl,hb1⟩
  have HB : Hid _:=hb1
  obtain ⟨hc,hf⟩:=bcell hb1
  have hz:=hb1.size
  clear hb1
  simp only [World.size_alloc] at hc hf hz
  go_wp2
  refine bodyPost_ret (v:=.agg #[.int .i64 (numK (-n)),.int .i64 (numN (-n))]) (by simp [results,Tryz.results109,go_sem,hc,hf]) rfl ⟨rfl,?_⟩
  exact ((((((Below.refl _ _).alloc (Nat.le_refl _) _).alloc (by simp) _).trans (HB.out.mono (by simp;omega)))).setCell (by simp) _).setCell (by simp) _
 ·have e1 : negV k n = (0,0):=by unfold negV;rw [if_neg h]
  rw [e1];clear e1
  have hk : (k != 1) = true:=by simp [h]
  clear h
  go_enter Tryz.func109,Tryz.ntmps109
  go_wp2_with (go_at_call 57;refine (null_any _).mono ?_;rintro e w' ⟨rfl,rfl⟩)
  refine bodyPost_ret (v:=.agg #[.int .i64 0,.int .i64 0]) (by simp [results,Tryz.results109,go_sem]) rfl ⟨rfl,?_⟩
  repeat (first | exact Below.refl _ _ | assumption | refine Below.drew ?_ | refine Below.alloc ?_ (by simp <;> omega) _ | refine Below.setCell ?_ (by simp <;> omega) _)
theorem mul_hi (a b : Int) (a1 : -1000000000 ≤ a) (a2 : a ≤ 1000000000) (a3 : -1000000000 ≤ b) (a4 : b ≤ 1000000000) : a * b ≤ 1000000000000000000:=by
 have h1 : 0 ≤ (1000000000 - a) * (1000000000 + b):=Int.mul_nonneg (by omega) (by omega)
 have h2 : 0 ≤ (1000000000 + a) * (1000000000 - b):=Int.mul_nonneg (by omega) (by omega)
 simp only [Int.sub_mul,Int.mul_add,Int.add_mul,Int.mul_sub] at h1 h2
 omega
theorem mul_lo (a b : Int) (a1 : -1000000000 ≤ a) (a2 : a ≤ 1000000000) (a3 : -1000000000 ≤ b) (a4 : b ≤ 1000000000) : -1000000000000000000 ≤ a * b:=by
 have h:=mul_hi (-a) b (by omega) (by omega) a3 a4
 rw [Int.neg_mul] at h
 omega
theorem do_and (k1 n1 k2 n2 : Int) (w : World)  :
  Calls Tryz.prog 111 #[.int .i64 9,.agg #[.int .i64 k1,.int .i64 n1],.agg #[.int .i64 k2,.int .i64 n2]] w fun e w' => e = .returned (.agg #[.int .i64 (andK k1 n1 k2 n2),.int .i64 (andN k1 n1 k2 n2)]) ∧ Below w.heap.size w w':=by
 have HB : Hid (Below (((w.alloc (.cells #[.int .i64 k1,.int .i64 n1] 26)).alloc (.cells #[.int .i64 k2,.int .i64 n2] 26)).alloc (.cells #[.int .i64 0,.int .i64 0] 26)).heap.size (((w.alloc (.cells #[.int .i64 k1,.int .i64 n1] 26)).alloc (.cells #[.int .i64 k2,.int .i64 n2] 26)).alloc (.cells #[.int .i64 0,.int .i64 0] 26)) (((w.alloc (.cells #[.int .i64 k1,.int .i64 n1] 26)).alloc (.cells #[.int .i64 k2,.int .i64 n2] 26)).alloc (.cells #[.int .i64 0,.int .i64 0] 26))):=Below.refl _ _
 go_enter Tryz.func111,Tryz.ntmps111
 go_wp2_with (go_at_call 119;refine (and_any _ _ _ _ _).mono ?_;rintro e w1 ⟨rfl,hb⟩;have HB:=nxt HB hb;obtain ⟨hc,hf⟩:=rules HB;clear hb)
 exact bodyPost_ret (v:=.agg #[.int .i64 (andK k1 n1 k2 n2),.int .i64 (andN k1 n1 k2 n2)]) (by simp [results,Tryz.results111,go_sem,hc,hf]) rfl ⟨rfl,ended HB (w3_below _ _ _ _) _ _⟩
theorem do_or (k1 n1 k2 n2 : Int) (w : World)  :
  Calls Tryz.prog 111 #[.int .i64 10,.agg #[.int .i64 k1,.int .i64 n1],.agg #[.int .i64 k2,.int .i64 n2]] w fun e w' => e = .returned (.agg #[.int .i64 (orK k1 n1 k2 n2),.int .i64 (orN k1 n1 k2 n2)]) ∧ Below w.heap.size w w':=by
 have HB : Hid (Below (((w.alloc (.cells #[.int .i64 k1,.int .i64 n1] 26)).alloc (.cells #[.int .i64 k2,.int .i64 n2] 26)).alloc (.cells #[.int .i64 0,.int .i64 0] 26)).heap.size (((w.alloc (.cells #[.int .i64 k1,.int .i64 n1] 26)).alloc (.cells #[.int .i64 k2,.int .i64 n2] 26)).alloc (.cells #[.int .i64 0,.int .i64 0] 26)) (((w.alloc (.cells #[.int .i64 k1,.int .i64 n1] 26)).alloc (.cells #[.int .i64 k2,.int .i64 n2] 26)).alloc (.cells #[.int .i64 0,.int .i64 0] 26))):=Below.refl _ _
 go_enter Tryz.func111,Tryz.ntmps111
 go_wp2_with (go_at_call 120;refine (or_any _ _ _ _ _).mono ?_;rintro e w1 ⟨rfl,hb⟩;have HB:=nxt HB hb;obtain ⟨hc,hf⟩:=rules HB;clear hb)
 exact bodyPost_ret (v:=.agg #[.int .i64 (orK k1 n1 k2 n2),.int .i64 (orN k1 n1 k2 n2)]) (by simp [results,Tryz.results111,go_sem,hc,hf]) rfl ⟨rfl,ended HB (w3_below _ _ _ _) _ _⟩
theorem do_no1 (op k1 n1 k2 n2 : Int) (w : World) (h9 : (op == 9) = false) (h10 : (op == 10) = false) (hk : (k1 != 1) = true) :
  Calls Tryz.prog 111 #[.int .i64 op,.agg #[.int .i64 k1,.int .i64 n1],.agg #[.int .i64 k2,.int .i64 n2]] w fun e w' => e = .returned (.agg #[.int .i64 0,.int .i64 0]) ∧ Below w.heap.size w w':=by
 have HB : Hid (Below (((w.alloc (.cells #[.int .i64 k1,.int .i64 n1] 26)).alloc (.cells #[.int .i64 k2,.int .i64 n2] 26)).alloc (.cells #[.int .i64 0,.int .i64 0] 26)).heap.size (((w.alloc (.cells #[.int .i64 k1,.int .i64 n1] 26)).alloc (.cells #[.int .i64 k2,.int .i64 n2] 26)).alloc (.cells #[.int .i64 0,.int .i64 0] 26)) (((w.alloc (.cells #[.int .i64 k1,.int .i64 n1] 26)).alloc (.cells #[.int .i64 k2,.int .i64 n2] 26)).alloc (.cells #[.int .i64 0,.int .i64 0] 26))):=Below.refl _ _
 go_enter Tryz.func111,Tryz.ntmps111
 go_wp2_with (go_at_call 57;refine (null_b _).mono ?_;rintro e w1 ⟨rfl,hb⟩;have HB:=nxt HB hb;obtain ⟨hc,hf⟩:=rules HB;clear hb)
 exact bodyPost_ret (v:=.agg #[.int .i64 0,.int .i64 0]) (by simp [results,Tryz.results111,go_sem,hc,hf]) rfl ⟨rfl,ended HB (w3_below _ _ _ _) _ _⟩
theorem do_no2 (op k1 n1 k2 n2 : Int) (w : World) (h9 : (op == 9) = false) (h10 : (op == 10) = false) (hk : (k1 != 1) = false) (hl : (k2 != 1) = true) :
  Calls Tryz.prog 111 #[.int .i64 op,.agg #[.int .i64 k1,.int .i64 n1],.agg #[.int .i64 k2,.int .i64 n2]] w fun e w' => e = .returned (.agg #[.int .i64 0,.int .i64 0]) ∧ Below w.heap.size w w':=by
 have HB : Hid (Below (((w.alloc (.cells #[.int .i64 k1,.int .i64 n1] 26)).alloc (.cells #[.int .i64 k2,.int .i64 n2] 26)).alloc (.cells #[.int .i64 0,.int .i64 0] 26)).heap.size (((w.alloc (.cells #[.int .i64 k1,.int .i64 n1] 26)).alloc (.cells #[.int .i64 k2,.int .i64 n2] 26)).alloc (.cells #[.int .i64 0,.int .i64 0] 26)) (((w.alloc (.cells #[.int .i64 k1,.int .i64 n1] 26)).alloc (.cells #[.int .i64 k2,.int .i64 n2] 26)).alloc (.cells #[.int .i64 0,.int .i64 0] 26))):=Below.refl _ _
 go_enter Tryz.func111,Tryz.ntmps111
 go_wp2_with (go_at_call 57;refine (null_b _).mono ?_;rintro e w1 ⟨rfl,hb⟩;have HB:=nxt HB hb;obtain ⟨hc,hf⟩:=rules HB;clear hb)
 exact bodyPost_ret (v:=.agg #[.int .i64 0,.int .i64 0]) (by simp [results,Tryz.results111,go_sem,hc,hf]) rfl ⟨rfl,ended HB (w3_below _ _ _ _) _ _⟩
theorem do_add (n1 n2 : Int) (w : World) (a1 : -1000000000 ≤ n1) (a2 : n1 ≤ 1000000000) (a3 : -1000000000 ≤ n2) (a4 : n2 ≤ 1000000000) :
  Calls Tryz.prog 111 #[.int .i64 6,.agg #[.int .i64 1,.int .i64 n1],.agg #[.int .i64 1,.int .i64 n2]] w fun e w' => e = .returned (.agg #[.int .i64 (numK (n1 + n2)),.int .i64 (numN (n1 + n2))]) ∧ Below w.heap.size w w':=by
 have HB : Hid (Below (((w.alloc (.cells #[.int .i64 1,.int .i64 n1] 26)).alloc (.cells #[.int .i64 1,.int .i64 n2] 26)).alloc (.cells #[.int .i64 0,.int .i64 0] 26)).heap.size (((w.alloc (.cells #[.int .i64 1,.int .i64 n1] 26)).alloc (.cells #[.int .i64 1,.int .i64 n2] 26)).alloc (.cells #[.int .i64 0,.int .i64 0] 26)) (((w.alloc (.cells #[.int .i64 1,.int .i64 n1] 26)).alloc (.cells #[.int .i64 1,.int .i64 n2] 26)).alloc (.cells #[.int .i64 0,.int .i64 0] 26))):=Below.refl _ _
 have h1 : ((1 : Int) != 1) = false:=rfl
 go_enter Tryz.func111,Tryz.ntmps111
 go_wp2_with (go_at_call 96;refine (number_any _ _).mono ?_;rintro e w1 ⟨rfl,hb⟩;have HB:=nxt HB hb;obtain ⟨hc,hf⟩:=rules HB;clear hb)
 exact bodyPost_ret (v:=.agg #[.int .i64 (numK (n1 + n2)),.int .i64 (numN (n1 + n2))]) (by simp [results,Tryz.results111,go_sem,hc,hf]) rfl ⟨rfl,ended HB (w3_below _ _ _ _) _ _⟩
theorem do_sub (n1 n2 : Int) (w : World) (a1 : -1000000000 ≤ n1) (a2 : n1 ≤ 1000000000) (a3 : -1000000000 ≤ n2) (a4 : n2 ≤ 1000000000) :
  Calls Tryz.prog 111 #[.int .i64 7,.agg #[.int .i64 1,.int .i64 n1],.agg #[.int .i64 1,.int .i64 n2]] w fun e w' => e = .returned (.agg #[.int .i64 (numK (n1 - n2)),.int .i64 (numN (n1 - n2))]) ∧ Below w.heap.size w w':=by
 have HB : Hid (Below (((w.alloc (.cells #[.int .i64 1,.int .i64 n1] 26)).alloc (.cells #[.int .i64 1,.int .i64 n2] 26)).alloc (.cells #[.int .i64 0,.int .i64 0] 26)).heap.size (((w.alloc (.cells #[.int .i64 1,.int .i64 n1] 26)).alloc (.cells #[.int .i64 1,.int .i64 n2] 26)).alloc (.cells #[.int .i64 0,.int .i64 0] 26)) (((w.alloc (.cells #[.int .i64 1,.int .i64 n1] 26)).alloc (.cells #[.int .i64 1,.int .i64 n2] 26)).alloc (.cells #[.int .i64 0,.int .i64 0] 26))):=Below.refl _ _
 have h1 : ((1 : Int) != 1) = false:=rfl
 go_enter Tryz.func111,Tryz.ntmps111
 go_wp2_with (go_at_call 96;refine (number_any _ _).mono ?_;rintro e w1 ⟨rfl,hb⟩;have HB:=nxt HB hb;obtain ⟨hc,hf⟩:=rules HB;clear hb)
 exact bodyPost_ret (v:=.agg #[.int .i64 (numK (n1 - n2)),.int .i64 (numN (n1 - n2))]) (by simp [results,Tryz.results111,go_sem,hc,hf]) rfl ⟨rfl,ended HB (w3_below _ _ _ _) _ _⟩
theorem do_mul (n1 n2 : Int) (w : World) (a1 : -1000000000 ≤ n1) (a2 : n1 ≤ 1000000000) (a3 : -1000000000 ≤ n2) (a4 : n2 ≤ 1000000000) :
  Calls Tryz.prog 111 #[.int .i64 8,.agg #[.int .i64 1,.int .i64 n1],.agg #[.int .i64 1,.int .i64 n2]] w fun e w' => e = .returned (.agg #[.int .i64 (numK (n1 * n2)),.int .i64 (numN (n1 * n2))]) ∧ Below w.heap.size w w':=by
 have HB : Hid (Below (((w.alloc (.cells #[.int .i64 1,.int .i64 n1] 26)).alloc (.cells #[.int .i64 1,.int .i64 n2] 26)).alloc (.cells #[.int .i64 0,.int .i64 0] 26)).heap.size (((w.alloc (.cells #[.int .i64 1,.int .i64 n1] 26)).alloc (.cells #[.int .i64 1,.int .i64 n2] 26)).alloc (.cells #[.int .i64 0,.int .i64 0] 26)) (((w.alloc (.cells #[.int .i64 1,.int .i64 n1] 26)).alloc (.cells #[.int .i64 1,.int .i64 n2] 26)).alloc (.cells #[.int .i64 0,.int .i64 0] 26))):=Below.refl _ _
 have h1 : ((1 : Int) != 1) = false:=rfl
 have m1 : -1000000000000000000 ≤ n1 * n2:=mul_lo n1 n2 a1 a2 a3 a4
 have m2 : n1 * n2 ≤ 1000000000000000000:=mul_hi n1 n2 a1 a2 a3 a4
 go_enter Tryz.func111,Tryz.ntmps111
 go_wp2_with (go_at_call 96;refine (number_any _ _).mono ?_;rintro e w1 ⟨rfl,hb⟩;have HB:=nxt HB hb;obtain ⟨hc,hf⟩:=rules HB;clear hb)
 exact bodyPost_ret (v:=.agg #[.int .i64 (numK (n1 * n2)),.int .i64 (numN (n1 * n2))]) (by simp [results,Tryz.results111,go_sem,hc,hf]) rfl ⟨rfl,ended HB (w3_below _ _ _ _) _ _⟩
theorem do_less (n1 n2 : Int) (w : World) (a1 : -1000000000 ≤ n1) (a2 : n1 ≤ 1000000000) (a3 : -1000000000 ≤ n2) (a4 : n2 ≤ 1000000000) :
  Calls Tryz.prog 111 #[.int .i64 11,.agg #[.int .i64 1,.int .i64 n1],.agg #[.int .i64 1,.int .i64 n2]] w fun e w' => e = .returned (.agg #[.int .i64 2,.int .i64 (b01 (decide (n1 < n2)))]) ∧ Below w.heap.size w w':=by
 have HB : Hid (Below (((w.alloc (.cells #[.int .i64 1,.int .i64 n1] 26)).alloc (.cells #[.int .i64 1,.int .i64 n2] 26)).alloc (.cells #[.int .i64 0,.int .i64 0] 26)).heap.size (((w.alloc (.cells #[.int .i64 1,.int .i64 n1] 26)).alloc (.cells #[.int .i64 1,.int .i64 n2] 26)).alloc (.cells #[.int .i64 0,.int .i64 0] 26)) (((w.alloc (.cells #[.int .i64 1,.int .i64 n1] 26)).alloc (.cells #[.int .i64 1,.int .i64 n2] 26)).alloc (.cells #[.int .i64 0,.int .i64 0] 26))):=Below.refl _ _
 have h1 : ((1 : Int) != 1) = false:=rfl
 go_enter Tryz.func111,Tryz.ntmps111
 go_wp2_with (go_at_call 7;refine (truth_bb _ _).mono ?_;rintro e w1 ⟨rfl,hb⟩;have HB:=nxt HB hb;obtain ⟨hc,hf⟩:=rules HB;clear hb)
 exact bodyPost_ret (v:=.agg #[.int .i64 2,.int .i64 (b01 (decide (n1 < n2)))]) (by simp [results,Tryz.results111,go_sem,hc,hf]) rfl ⟨rfl,ended HB (w3_below _ _ _ _) _ _⟩
theorem do_same (n1 n2 : Int) (w : World) (a1 : -1000000000 ≤ n1) (a2 : n1 ≤ 1000000000) (a3 : -1000000000 ≤ n2) (a4 : n2 ≤ 1000000000) :
  Calls Tryz.prog 111 #[.int .i64 12,.agg #[.int .i64 1,.int .i64 n1],.agg #[.int .i64 1,.int .i64 n2]] w fun e w' => e = .returned (.agg #[.int .i64 2,.int .i64 (b01 (n1 == n2))]) ∧ Below w.heap.size w w':=by
 have HB : Hid (Below (((w.alloc (.cells #[.int .i64 1,.int .i64 n1] 26)).alloc (.cells #[.int .i64 1,.int .i64 n2] 26)).alloc (.cells #[.int .i64 0,.int .i64 0] 26)).heap.size (((w.alloc (.cells #[.int .i64 1,.int .i64 n1] 26)).alloc (.cells #[.int .i64 1,.int .i64 n2] 26)).alloc (.cells #[.int .i64 0,.int .i64 0] 26)) (((w.alloc (.cells #[.int .i64 1,.int .i64 n1] 26)).alloc (.cells #[.int .i64 1,.int .i64 n2] 26)).alloc (.cells #[.int .i64 0,.int .i64 0] 26))):=Below.refl _ _
 have h1 : ((1 : Int) != 1) = false:=rfl
 go_enter Tryz.func111,Tryz.ntmps111
 go_wp2_with (go_at_call 7;refine (truth_bb _ _).mono ?_;rintro e w1 ⟨rfl,hb⟩;have HB:=nxt HB hb;obtain ⟨hc,hf⟩:=rules HB;clear hb)
 exact bodyPost_ret (v:=.agg #[.int .i64 2,.int .i64 (b01 (n1 == n2))]) (by simp [results,Tryz.results111,go_sem,hc,hf]) rfl ⟨rfl,ended HB (w3_below _ _ _ _) _ _⟩
theorem do_none (op n1 n2 : Int) (w : World) (h9 : (op == 9) = false) (h10 : (op == 10) = false) (h6 : (op == 6) = false) (h7 : (op == 7) = false) (h8 : (op == 8) = false) (h11 : (op == 11) = false) (h12 : (op == 12) = false) :
  Calls Tryz.prog 111 #[.int .i64 op,.agg #[.int .i64 1,.int .i64 n1],.agg #[.int .i64 1,.int .i64 n2]] w fun e w' => e = .returned (.agg #[.int .i64 0,.int .i64 0]) ∧ Below w.heap.size w w':=by
 have HB : Hid (Below (((w.alloc (.cells #[.int .i64 1,.int .i64 n1] 26)).alloc (.cells #[.int .i64 1,.int .i64 n2] 26)).alloc (.cells #[.int .i64 0,.int .i64 0] 26)).heap.size (((w.alloc (.cells #[.int .i64 1,.int .i64 n1] 26)).alloc (.cells #[.int .i64 1,.int .i64 n2] 26)).alloc (.cells #[.int .i64 0,.int .i64 0] 26)) (((w.alloc (.cells #[.int .i64 1,.int .i64 n1] 26)).alloc (.cells #[.int .i64 1,.int .i64 n2] 26)).alloc (.cells #[.int .i64 0,.int .i64 0] 26))):=Below.refl _ _
 have h1 : ((1 : Int) != 1) = false:=rfl
 go_enter Tryz.func111,Tryz.ntmps111
 go_wp2_with (go_at_call 57;refine (null_b _).mono ?_;rintro e w1 ⟨rfl,hb⟩;have HB:=nxt HB hb;obtain ⟨hc,hf⟩:=rules HB;clear hb)
 exact bodyPost_ret (v:=.agg #[.int .i64 0,.int .i64 0]) (by simp [results,Tryz.results111,go_sem,hc,hf]) rfl ⟨rfl,ended HB (w3_below _ _ _ _) _ _⟩
theorem do_any (op k1 n1 k2 n2 : Int) (w : World) (a1 : -1000000000 ≤ n1) (a2 : n1 ≤ 1000000000) (a3 : -1000000000 ≤ n2) (a4 : n2 ≤ 1000000000) :
  Calls Tryz.prog 111 #[.int .i64 op,.agg #[.int .i64 k1,.int .i64 n1],.agg #[.int .i64 k2,.int .i64 n2]] w fun e w' => e = .returned (.agg #[.int .i64 (doV op k1 n1 k2 n2).1,.int .i64 (doV op k1 n1 k2 n2).2]) ∧ Below w.heap.size w w':=by
 by_cases h9 : op = 9
 ·subst h9;exact do_and k1 n1 k2 n2 w
 ·by_cases h10 : op = 10
  ·subst h10;exact do_or k1 n1 k2 n2 w
  ·have g9 : (op == 9) = false:=by simp [h9]
   have g10 : (op == 10) = false:=by simp [h10]
   by_cases k : k1 = 1 ∧ k2 = 1
   ·obtain ⟨rfl,rfl⟩:=k
    by_cases h6 : op = 6
    ·subst h6;exact do_add n1 n2 w a1 a2 a3 a4
    ·by_cases h7 : op = 7
     ·subst h7;exact do_sub n1 n2 w a1 a2 a3 a4
     ·by_cases h8 : op = 8
      ·subst h8;exact do_mul n1 n2 w a1 a2 a3 a4
      ·by_cases h11 : op = 11
       ·subst h11;exact do_less n1 n2 w a1 a2 a3 a4
       ·by_cases h12 : op = 12
        ·subst h12;exact do_same n1 n2 w a1 a2 a3 a4
        ·have e : doV op 1 n1 1 n2 = (0,0):=by simp [doV,h9,h10,h6,h7,h8,h11,h12]
         rw [e]
         exact do_none op n1 n2 w g9 g10 (by simp [h6]) (by simp [h7]) (by simp [h8]) (by simp [h11]) (by simp [h12])
   ·have e : doV op k1 n1 k2 n2 = (0,0):=by simp only [doV,h9,h10,k,if_false]
    rw [e]
    by_cases hk : k1 = 1
    ·exact do_no2 op k1 n1 k2 n2 w g9 g10 (by simp [hk]) (by simp;exact fun h => k ⟨hk,h⟩)
    ·exact do_no1 op k1 n1 k2 n2 w g9 g10 (by simp [hk])
end Go.Proofs.YtaomljdbndajgaaGreatDoor

/- Own texts in one. Conditions: as named in each. -/
import Derived.Test.YtcgjflamgnjhcaaGreatDoorVals2J
set_option linter.unusedVariables false
set_option linter.unusedSimpArgs false
set_option maxRecDepth 100000
set_option maxHeartbeats 8000000
namespace Go.Proofs.YtcgjflamgnjhcaaGreatDoor
open Go.ChangeShapes Go.WideShapes Go.ChangeAt Go.RowKit
def b01 (b:Bool):Int:=if b then 1 else 0
theorem ob (b:Bool) (w:World) :
  Calls Tryz.prog 124 #[.bool b] w fun e w'=>e=.returned (.agg #[.int .i64 2,.int .i64 (b01 b)])∧w'=w.alloc (.cells #[.int .i64 2,.int .i64 (b01 b)] 41):=by
 cases b
 ·exact cS false w
 ·exact cS true w
theorem kO (b:Bool) (w:World) :
  Calls Tryz.prog 124 #[.bool b] w fun e w'=>e=.returned (.agg #[.int .i64 2,.int .i64 (b01 b)])∧Below w.heap.size w w' :=
 (ob b w).mono fun e w' ⟨h1,h2⟩=>⟨h1,by rw [h2];exact (Below.refl _ _).alloc (Nat.le_refl _) _⟩
def pA (n:Int):Int×Int:=(numK n,numN n)
def tru (b:Bool):Int×Int:=(2,b01 b)
def doV (op k1 n1 k2 n2:Int):Int×Int :=
 if op=9 then (ma k1 n1 k2 n2,m8 k1 n1 k2 n2) else if op=10 then (orK k1 n1 k2 n2,orN k1 n1 k2 n2) else
 if k1=1∧k2=1 then
  if op=6 then pA (n1+n2) else if op=7 then pA (n1 - n2) else if op=8 then pA (n1 * n2) else
  if op=11 then tru (decide (n1 < n2)) else if op=12 then tru (n1 == n2) else (0,0)
 else (0,0)
def nX (k n:Int):Int×Int:=if k=2 then tru (n == 0) else (0,0)
def nU (k n:Int):Int×Int:=if k=1 then pA (-n) else (0,0)
theorem not_any (k n:Int) (w:World) :
  Calls Tryz.prog 176 #[.agg #[.int .i64 k,.int .i64 n]] w fun e w'=>e=.returned (.agg #[.int .i64 (nX k n).1,.int .i64 (nX k n).2])∧Below w.heap.size w w':=by
 by_cases h:k=2
 ·have e1:nX k n=tru (n == 0):=by unfold nX;rw [if_pos h]
  rw [e1];clear e1;subst h;unfold tru
  dsimp only
  go_enter Tryz.func176,Tryz.ntmps176
  go_wp2_with (go_at_call 124;refine (ob _ _).mono ?_;rintro e w' ⟨rfl,rfl⟩)
  refine bodyPost_ret (v:=.agg #[.int .i64 2,.int .i64 (b01 (n == 0))]) (by simp [results,Tryz.results176,go_sem]) rfl ⟨rfl,?_⟩
  repeat (first | exact Below.refl _ _ | assumption | refine Below.drew ?_ | refine Below.alloc ?_ (by simp <;> omega) _ | refine Below.setCell ?_ (by simp <;> omega) _)
 ·have e1:nX k n=(0,0):=by unfold nX;rw [if_neg h]
  rw [e1];clear e1;have hk:(k != 2)=true:=by simp [h]
  clear h
  go_enter Tryz.func176,Tryz.ntmps176
  go_wp2_with (go_at_call 125;refine (cE _).mono ?_;rintro e w' ⟨rfl,rfl⟩)
  refine bodyPost_ret (v:=.agg #[.int .i64 0,.int .i64 0]) (by simp [results,Tryz.results176,go_sem]) rfl ⟨rfl,?_⟩
  repeat (first | exact Below.refl _ _ | assumption | refine Below.drew ?_ | refine Below.alloc ?_ (by simp <;> omega) _ | refine Below.setCell ?_ (by simp <;> omega) _)
theorem neg_any (k n:Int) (w:World) (h1:-1000000000≤n) (h2:n≤1000000000) :
  Calls Tryz.prog 175 #[.agg #[.int .i64 k,.int .i64 n]] w fun e w'=>e=.returned (.agg #[.int .i64 (nU k n).1,.int .i64 (nU k n).2])∧Below w.heap.size w w':=by
 by_cases h:k=1
 ·have e1:nU k n=pA (-n):=by unfold nU;rw [if_pos h]
  rw [e1];clear e1;subst h;unfold pA
  dsimp only
  go_enter Tryz.func175,Tryz.ntmps175
  go_wp2_with fail;refine (bN _ _).mono ?_;rintro e w1 ⟨rfl,hb1⟩;have HB:Hid _:=hb1;obtain ⟨hc,hf⟩:=bcell hb1;have hz:=hb1.size;clear hb1;simp only [World.size_alloc] at hc hf hz
  go_wp2
  refine bodyPost_ret (v:=.agg #[.int .i64 (numK (-n)),.int .i64 (numN (-n))]) (by simp [results,Tryz.results175,go_sem,hc,hf]) rfl ⟨rfl,?_⟩;exact ((((((Below.refl _ _).alloc (Nat.le_refl _) _).alloc (by simp) _).trans (HB.out.mono (by simp;omega)))).setCell (by simp) _).setCell (by simp) _
 ·have e1:nU k n=(0,0):=by unfold nU;rw [if_neg h]
  rw [e1];clear e1;have hk:(k != 1)=true:=by simp [h]
  clear h
  go_enter Tryz.func175,Tryz.ntmps175
  go_wp2_with (go_at_call 125;refine (cE _).mono ?_;rintro e w' ⟨rfl,rfl⟩)
  refine bodyPost_ret (v:=.agg #[.int .i64 0,.int .i64 0]) (by simp [results,Tryz.results175,go_sem]) rfl ⟨rfl,?_⟩
  repeat (first | exact Below.refl _ _ | assumption | refine Below.drew ?_ | refine Below.alloc ?_ (by simp <;> omega) _ | refine Below.setCell ?_ (by simp <;> omega) _)
theorem pO (a b:Int) (a1:-1000000000≤a) (a2:a≤1000000000) (a3:-1000000000≤b) (a4:b≤1000000000):a * b≤1000000000000000000:=by
 have h1:0≤(1000000000 - a) * (1000000000+b):=Int.mul_nonneg (by omega) (by omega);have h2:0≤(1000000000+a) * (1000000000 - b):=Int.mul_nonneg (by omega) (by omega);simp only [Int.sub_mul,Int.mul_add,Int.add_mul,Int.mul_sub] at h1 h2;omega
theorem mul_lo (a b:Int) (a1:-1000000000≤a) (a2:a≤1000000000) (a3:-1000000000≤b) (a4:b≤1000000000):-1000000000000000000≤a * b:=by
 have h:=pO (-a) b (by omega) (by omega) a3 a4;rw [Int.neg_mul] at h;omega
theorem do_and (k1 n1 k2 n2:Int) (w:World)  :
  Calls Tryz.prog 177 #[.int .i64 9,.agg #[.int .i64 k1,.int .i64 n1],.agg #[.int .i64 k2,.int .i64 n2]] w fun e w'=>e=.returned (.agg #[.int .i64 (ma k1 n1 k2 n2),.int .i64 (m8 k1 n1 k2 n2)])∧Below w.heap.size w w':=by
 have HB:Hid (Below (((w.alloc (.cells #[.int .i64 k1,.int .i64 n1] 41)).alloc (.cells #[.int .i64 k2,.int .i64 n2] 41)).alloc (.cells #[.int .i64 0,.int .i64 0] 41)).heap.size (((w.alloc (.cells #[.int .i64 k1,.int .i64 n1] 41)).alloc (.cells #[.int .i64 k2,.int .i64 n2] 41)).alloc (.cells #[.int .i64 0,.int .i64 0] 41)) (((w.alloc (.cells #[.int .i64 k1,.int .i64 n1] 41)).alloc (.cells #[.int .i64 k2,.int .i64 n2] 41)).alloc (.cells #[.int .i64 0,.int .i64 0] 41))):=Below.refl _ _
 go_enter Tryz.func177,Tryz.ntmps177
 go_wp2_with (go_at_call 187;refine (and_any _ _ _ _ _).mono ?_;rintro e w1 ⟨rfl,hb⟩;have HB:=nxt HB hb;obtain ⟨hc,hf⟩:=rules HB;clear hb)
 exact bodyPost_ret (v:=.agg #[.int .i64 (ma k1 n1 k2 n2),.int .i64 (m8 k1 n1 k2 n2)]) (by simp [results,Tryz.results177,go_sem,hc,hf]) rfl ⟨rfl,ended HB (bi _ _ _ _) _ _⟩
theorem do_or (k1 n1 k2 n2:Int) (w:World)  :
  Calls Tryz.prog 177 #[.int .i64 10,.agg #[.int .i64 k1,.int .i64 n1],.agg #[.int .i64 k2,.int .i64 n2]] w fun e w'=>e=.returned (.agg #[.int .i64 (orK k1 n1 k2 n2),.int .i64 (orN k1 n1 k2 n2)])∧Below w.heap.size w w':=by
 have HB:Hid (Below (((w.alloc (.cells #[.int .i64 k1,.int .i64 n1] 41)).alloc (.cells #[.int .i64 k2,.int .i64 n2] 41)).alloc (.cells #[.int .i64 0,.int .i64 0] 41)).heap.size (((w.alloc (.cells #[.int .i64 k1,.int .i64 n1] 41)).alloc (.cells #[.int .i64 k2,.int .i64 n2] 41)).alloc (.cells #[.int .i64 0,.int .i64 0] 41)) (((w.alloc (.cells #[.int .i64 k1,.int .i64 n1] 41)).alloc (.cells #[.int .i64 k2,.int .i64 n2] 41)).alloc (.cells #[.int .i64 0,.int .i64 0] 41))):=Below.refl _ _
 go_enter Tryz.func177,Tryz.ntmps177
 go_wp2_with (go_at_call 188;refine (or_any _ _ _ _ _).mono ?_;rintro e w1 ⟨rfl,hb⟩;have HB:=nxt HB hb;obtain ⟨hc,hf⟩:=rules HB;clear hb)
 exact bodyPost_ret (v:=.agg #[.int .i64 (orK k1 n1 k2 n2),.int .i64 (orN k1 n1 k2 n2)]) (by simp [results,Tryz.results177,go_sem,hc,hf]) rfl ⟨rfl,ended HB (bi _ _ _ _) _ _⟩
theorem do_no1 (op k1 n1 k2 n2:Int) (w:World) (h9:(op == 9)=false) (h10:(op == 10)=false) (hk:(k1 != 1)=true) :
  Calls Tryz.prog 177 #[.int .i64 op,.agg #[.int .i64 k1,.int .i64 n1],.agg #[.int .i64 k2,.int .i64 n2]] w fun e w'=>e=.returned (.agg #[.int .i64 0,.int .i64 0])∧Below w.heap.size w w':=by
 have HB:Hid (Below (((w.alloc (.cells #[.int .i64 k1,.int .i64 n1] 41)).alloc (.cells #[.int .i64 k2,.int .i64 n2] 41)).alloc (.cells #[.int .i64 0,.int .i64 0] 41)).heap.size (((w.alloc (.cells #[.int .i64 k1,.int .i64 n1] 41)).alloc (.cells #[.int .i64 k2,.int .i64 n2] 41)).alloc (.cells #[.int .i64 0,.int .i64 0] 41)) (((w.alloc (.cells #[.int .i64 k1,.int .i64 n1] 41)).alloc (.cells #[.int .i64 k2,.int .i64 n2] 41)).alloc (.cells #[.int .i64 0,.int .i64 0] 41))):=Below.refl _ _
 go_enter Tryz.func177,Tryz.ntmps177
 go_wp2_with (go_at_call 125;refine (d7 _).mono ?_;rintro e w1 ⟨rfl,hb⟩;have HB:=nxt HB hb;obtain ⟨hc,hf⟩:=rules HB;clear hb)
 exact bodyPost_ret (v:=.agg #[.int .i64 0,.int .i64 0]) (by simp [results,Tryz.results177,go_sem,hc,hf]) rfl ⟨rfl,ended HB (bi _ _ _ _) _ _⟩
theorem do_no2 (op k1 n1 k2 n2:Int) (w:World) (h9:(op == 9)=false) (h10:(op == 10)=false) (hk:(k1 != 1)=false) (hl:(k2 != 1)=true) :
  Calls Tryz.prog 177 #[.int .i64 op,.agg #[.int .i64 k1,.int .i64 n1],.agg #[.int .i64 k2,.int .i64 n2]] w fun e w'=>e=.returned (.agg #[.int .i64 0,.int .i64 0])∧Below w.heap.size w w':=by
 have HB:Hid (Below (((w.alloc (.cells #[.int .i64 k1,.int .i64 n1] 41)).alloc (.cells #[.int .i64 k2,.int .i64 n2] 41)).alloc (.cells #[.int .i64 0,.int .i64 0] 41)).heap.size (((w.alloc (.cells #[.int .i64 k1,.int .i64 n1] 41)).alloc (.cells #[.int .i64 k2,.int .i64 n2] 41)).alloc (.cells #[.int .i64 0,.int .i64 0] 41)) (((w.alloc (.cells #[.int .i64 k1,.int .i64 n1] 41)).alloc (.cells #[.int .i64 k2,.int .i64 n2] 41)).alloc (.cells #[.int .i64 0,.int .i64 0] 41))):=Below.refl _ _
 go_enter Tryz.func177,Tryz.ntmps177
 go_wp2_with (go_at_call 125;refine (d7 _).mono ?_;rintro e w1 ⟨rfl,hb⟩;have HB:=nxt HB hb;obtain ⟨hc,hf⟩:=rules HB;clear hb)
 exact bodyPost_ret (v:=.agg #[.int .i64 0,.int .i64 0]) (by simp [results,Tryz.results177,go_sem,hc,hf]) rfl ⟨rfl,ended HB (bi _ _ _ _) _ _⟩
theorem do_add (n1 n2:Int) (w:World) (a1:-1000000000≤n1) (a2:n1≤1000000000) (a3:-1000000000≤n2) (a4:n2≤1000000000) :
  Calls Tryz.prog 177 #[.int .i64 6,.agg #[.int .i64 1,.int .i64 n1],.agg #[.int .i64 1,.int .i64 n2]] w fun e w'=>e=.returned (.agg #[.int .i64 (numK (n1+n2)),.int .i64 (numN (n1+n2))])∧Below w.heap.size w w':=by
 have HB:Hid (Below (((w.alloc (.cells #[.int .i64 1,.int .i64 n1] 41)).alloc (.cells #[.int .i64 1,.int .i64 n2] 41)).alloc (.cells #[.int .i64 0,.int .i64 0] 41)).heap.size (((w.alloc (.cells #[.int .i64 1,.int .i64 n1] 41)).alloc (.cells #[.int .i64 1,.int .i64 n2] 41)).alloc (.cells #[.int .i64 0,.int .i64 0] 41)) (((w.alloc (.cells #[.int .i64 1,.int .i64 n1] 41)).alloc (.cells #[.int .i64 1,.int .i64 n2] 41)).alloc (.cells #[.int .i64 0,.int .i64 0] 41))):=Below.refl _ _;have h1:((1:Int) != 1)=false:=rfl
 go_enter Tryz.func177,Tryz.ntmps177
 go_wp2_with (go_at_call 158;refine (bN _ _).mono ?_;rintro e w1 ⟨rfl,hb⟩;have HB:=nxt HB hb;obtain ⟨hc,hf⟩:=rules HB;clear hb)
 exact bodyPost_ret (v:=.agg #[.int .i64 (numK (n1+n2)),.int .i64 (numN (n1+n2))]) (by simp [results,Tryz.results177,go_sem,hc,hf]) rfl ⟨rfl,ended HB (bi _ _ _ _) _ _⟩
theorem do_sub (n1 n2:Int) (w:World) (a1:-1000000000≤n1) (a2:n1≤1000000000) (a3:-1000000000≤n2) (a4:n2≤1000000000) :
  Calls Tryz.prog 177 #[.int .i64 7,.agg #[.int .i64 1,.int .i64 n1],.agg #[.int .i64 1,.int .i64 n2]] w fun e w'=>e=.returned (.agg #[.int .i64 (numK (n1 - n2)),.int .i64 (numN (n1 - n2))])∧Below w.heap.size w w':=by
 have HB:Hid (Below (((w.alloc (.cells #[.int .i64 1,.int .i64 n1] 41)).alloc (.cells #[.int .i64 1,.int .i64 n2] 41)).alloc (.cells #[.int .i64 0,.int .i64 0] 41)).heap.size (((w.alloc (.cells #[.int .i64 1,.int .i64 n1] 41)).alloc (.cells #[.int .i64 1,.int .i64 n2] 41)).alloc (.cells #[.int .i64 0,.int .i64 0] 41)) (((w.alloc (.cells #[.int .i64 1,.int .i64 n1] 41)).alloc (.cells #[.int .i64 1,.int .i64 n2] 41)).alloc (.cells #[.int .i64 0,.int .i64 0] 41))):=Below.refl _ _;have h1:((1:Int) != 1)=false:=rfl
 go_enter Tryz.func177,Tryz.ntmps177
 go_wp2_with (go_at_call 158;refine (bN _ _).mono ?_;rintro e w1 ⟨rfl,hb⟩;have HB:=nxt HB hb;obtain ⟨hc,hf⟩:=rules HB;clear hb)
 exact bodyPost_ret (v:=.agg #[.int .i64 (numK (n1 - n2)),.int .i64 (numN (n1 - n2))]) (by simp [results,Tryz.results177,go_sem,hc,hf]) rfl ⟨rfl,ended HB (bi _ _ _ _) _ _⟩
theorem do_mul (n1 n2:Int) (w:World) (a1:-1000000000≤n1) (a2:n1≤1000000000) (a3:-1000000000≤n2) (a4:n2≤1000000000) :
  Calls Tryz.prog 177 #[.int .i64 8,.agg #[.int .i64 1,.int .i64 n1],.agg #[.int .i64 1,.int .i64 n2]] w fun e w'=>e=.returned (.agg #[.int .i64 (numK (n1 * n2)),.int .i64 (numN (n1 * n2))])∧Below w.heap.size w w':=by
 have HB:Hid (Below (((w.alloc (.cells #[.int .i64 1,.int .i64 n1] 41)).alloc (.cells #[.int .i64 1,.int .i64 n2] 41)).alloc (.cells #[.int .i64 0,.int .i64 0] 41)).heap.size (((w.alloc (.cells #[.int .i64 1,.int .i64 n1] 41)).alloc (.cells #[.int .i64 1,.int .i64 n2] 41)).alloc (.cells #[.int .i64 0,.int .i64 0] 41)) (((w.alloc (.cells #[.int .i64 1,.int .i64 n1] 41)).alloc (.cells #[.int .i64 1,.int .i64 n2] 41)).alloc (.cells #[.int .i64 0,.int .i64 0] 41))):=Below.refl _ _;have h1:((1:Int) != 1)=false:=rfl;have m1:-1000000000000000000≤n1 * n2:=mul_lo n1 n2 a1 a2 a3 a4;have m2:n1 * n2≤1000000000000000000:=pO n1 n2 a1 a2 a3 a4
 go_enter Tryz.func177,Tryz.ntmps177
 go_wp2_with (go_at_call 158;refine (bN _ _).mono ?_;rintro e w1 ⟨rfl,hb⟩;have HB:=nxt HB hb;obtain ⟨hc,hf⟩:=rules HB;clear hb)
 exact bodyPost_ret (v:=.agg #[.int .i64 (numK (n1 * n2)),.int .i64 (numN (n1 * n2))]) (by simp [results,Tryz.results177,go_sem,hc,hf]) rfl ⟨rfl,ended HB (bi _ _ _ _) _ _⟩
theorem do_less (n1 n2:Int) (w:World) (a1:-1000000000≤n1) (a2:n1≤1000000000) (a3:-1000000000≤n2) (a4:n2≤1000000000) :
  Calls Tryz.prog 177 #[.int .i64 11,.agg #[.int .i64 1,.int .i64 n1],.agg #[.int .i64 1,.int .i64 n2]] w fun e w'=>e=.returned (.agg #[.int .i64 2,.int .i64 (b01 (decide (n1 < n2)))])∧Below w.heap.size w w':=by
 have HB:Hid (Below (((w.alloc (.cells #[.int .i64 1,.int .i64 n1] 41)).alloc (.cells #[.int .i64 1,.int .i64 n2] 41)).alloc (.cells #[.int .i64 0,.int .i64 0] 41)).heap.size (((w.alloc (.cells #[.int .i64 1,.int .i64 n1] 41)).alloc (.cells #[.int .i64 1,.int .i64 n2] 41)).alloc (.cells #[.int .i64 0,.int .i64 0] 41)) (((w.alloc (.cells #[.int .i64 1,.int .i64 n1] 41)).alloc (.cells #[.int .i64 1,.int .i64 n2] 41)).alloc (.cells #[.int .i64 0,.int .i64 0] 41))):=Below.refl _ _;have h1:((1:Int) != 1)=false:=rfl
 go_enter Tryz.func177,Tryz.ntmps177
 go_wp2_with (go_at_call 124;refine (kO _ _).mono ?_;rintro e w1 ⟨rfl,hb⟩;have HB:=nxt HB hb;obtain ⟨hc,hf⟩:=rules HB;clear hb)
 exact bodyPost_ret (v:=.agg #[.int .i64 2,.int .i64 (b01 (decide (n1 < n2)))]) (by simp [results,Tryz.results177,go_sem,hc,hf]) rfl ⟨rfl,ended HB (bi _ _ _ _) _ _⟩
theorem do_same (n1 n2:Int) (w:World) (a1:-1000000000≤n1) (a2:n1≤1000000000) (a3:-1000000000≤n2) (a4:n2≤1000000000) :
  Calls Tryz.prog 177 #[.int .i64 12,.agg #[.int .i64 1,.int .i64 n1],.agg #[.int .i64 1,.int .i64 n2]] w fun e w'=>e=.returned (.agg #[.int .i64 2,.int .i64 (b01 (n1 == n2))])∧Below w.heap.size w w':=by
 have HB:Hid (Below (((w.alloc (.cells #[.int .i64 1,.int .i64 n1] 41)).alloc (.cells #[.int .i64 1,.int .i64 n2] 41)).alloc (.cells #[.int .i64 0,.int .i64 0] 41)).heap.size (((w.alloc (.cells #[.int .i64 1,.int .i64 n1] 41)).alloc (.cells #[.int .i64 1,.int .i64 n2] 41)).alloc (.cells #[.int .i64 0,.int .i64 0] 41)) (((w.alloc (.cells #[.int .i64 1,.int .i64 n1] 41)).alloc (.cells #[.int .i64 1,.int .i64 n2] 41)).alloc (.cells #[.int .i64 0,.int .i64 0] 41))):=Below.refl _ _;have h1:((1:Int) != 1)=false:=rfl
 go_enter Tryz.func177,Tryz.ntmps177
 go_wp2_with (go_at_call 124;refine (kO _ _).mono ?_;rintro e w1 ⟨rfl,hb⟩;have HB:=nxt HB hb;obtain ⟨hc,hf⟩:=rules HB;clear hb)
 exact bodyPost_ret (v:=.agg #[.int .i64 2,.int .i64 (b01 (n1 == n2))]) (by simp [results,Tryz.results177,go_sem,hc,hf]) rfl ⟨rfl,ended HB (bi _ _ _ _) _ _⟩
theorem do_none (op n1 n2:Int) (w:World) (h9:(op == 9)=false) (h10:(op == 10)=false) (h6:(op == 6)=false) (h7:(op == 7)=false) (h8:(op == 8)=false) (h11:(op == 11)=false) (h12:(op == 12)=false) :
  Calls Tryz.prog 177 #[.int .i64 op,.agg #[.int .i64 1,.int .i64 n1],.agg #[.int .i64 1,.int .i64 n2]] w fun e w'=>e=.returned (.agg #[.int .i64 0,.int .i64 0])∧Below w.heap.size w w':=by
 have HB:Hid (Below (((w.alloc (.cells #[.int .i64 1,.int .i64 n1] 41)).alloc (.cells #[.int .i64 1,.int .i64 n2] 41)).alloc (.cells #[.int .i64 0,.int .i64 0] 41)).heap.size (((w.alloc (.cells #[.int .i64 1,.int .i64 n1] 41)).alloc (.cells #[.int .i64 1,.int .i64 n2] 41)).alloc (.cells #[.int .i64 0,.int .i64 0] 41)) (((w.alloc (.cells #[.int .i64 1,.int .i64 n1] 41)).alloc (.cells #[.int .i64 1,.int .i64 n2] 41)).alloc (.cells #[.int .i64 0,.int .i64 0] 41))):=Below.refl _ _;have h1:((1:Int) != 1)=false:=rfl
 go_enter Tryz.func177,Tryz.ntmps177
 go_wp2_with (go_at_call 125;refine (d7 _).mono ?_;rintro e w1 ⟨rfl,hb⟩;have HB:=nxt HB hb;obtain ⟨hc,hf⟩:=rules HB;clear hb)
 exact bodyPost_ret (v:=.agg #[.int .i64 0,.int .i64 0]) (by simp [results,Tryz.results177,go_sem,hc,hf]) rfl ⟨rfl,ended HB (bi _ _ _ _) _ _⟩
theorem do_any (op k1 n1 k2 n2:Int) (w:World) (a1:-1000000000≤n1) (a2:n1≤1000000000) (a3:-1000000000≤n2) (a4:n2≤1000000000) :
  Calls Tryz.prog 177 #[.int .i64 op,.agg #[.int .i64 k1,.int .i64 n1],.agg #[.int .i64 k2,.int .i64 n2]] w fun e w'=>e=.returned (.agg #[.int .i64 (doV op k1 n1 k2 n2).1,.int .i64 (doV op k1 n1 k2 n2).2])∧Below w.heap.size w w':=by
 by_cases h9:op=9
 ·subst h9;exact do_and k1 n1 k2 n2 w
 ·by_cases h10:op=10
  ·subst h10;exact do_or k1 n1 k2 n2 w
  ·have g9:(op == 9)=false:=by simp [h9]
   have g10:(op == 10)=false:=by simp [h10]
   by_cases k:k1=1∧k2=1
   ·obtain ⟨rfl,rfl⟩:=k
    by_cases h6:op=6
    ·subst h6;exact do_add n1 n2 w a1 a2 a3 a4
    ·by_cases h7:op=7
     ·subst h7;exact do_sub n1 n2 w a1 a2 a3 a4
     ·by_cases h8:op=8
      ·subst h8;exact do_mul n1 n2 w a1 a2 a3 a4
      ·by_cases h11:op=11
       ·subst h11;exact do_less n1 n2 w a1 a2 a3 a4
       ·by_cases h12:op=12
        ·subst h12;exact do_same n1 n2 w a1 a2 a3 a4
        ·have e:doV op 1 n1 1 n2=(0,0):=by simp [doV,h9,h10,h6,h7,h8,h11,h12]
         rw [e];exact do_none op n1 n2 w g9 g10 (by simp [h6]) (by simp [h7]) (by simp [h8]) (by simp [h11]) (by simp [h12])
   ·have e:doV op k1 n1 k2 n2=(0,0):=by simp only [doV,h9,h10,k,if_false]
    rw [e]
    by_cases hk:k1=1
    ·exact do_no2 op k1 n1 k2 n2 w g9 g10 (by simp [hk]) (by simp;exact fun h=>k ⟨hk,h⟩)
    ·exact do_no1 op k1 n1 k2 n2 w g9 g10 (by simp [hk])
end Go.Proofs.YtcgjflamgnjhcaaGreatDoor
namespace Go.Proofs.YtcgjflamgnjhcaaGreatDoor
structure Nd where
 op:Int
 x:Int
 y:Int
 n:Int
 k:Int
 v:Int
deriving DecidableEq
abbrev V2:=Int×Int
def ar (op:Int):Int:=if op=1∨op=2 then 0 else if 3≤op∧op≤5 then 1 else if 6≤op∧op≤12 then 2 else -1
theorem qi (op:Int):ar op≤2:=by unfold ar;(repeat' split);all_goals omega
def qQ (k n:Int):Bool:=decide ((k=0∧n=0)∨(k=1∧-1000000000≤n∧n≤1000000000)∨(k=2∧(n=0∨n=1)))
def lJ (n:Nd):Prop:=ar n.op < 0∨(n.op≠1∧¬ (n.k=0∧n.v=0))∨(n.op≠2∧n.n≠0)∨(ar n.op < 2∧n.y≠0)∨(ar n.op < 1∧n.x≠0)
instance (n:Nd):Decidable (lJ n):=by unfold lJ;infer_instance
def okN (n:Nd):Int:=if lJ n then 3 else if n.n < 0∨4≤n.n then 1 else if qQ n.k n.v then 0 else 3
def eg (bs:List Nat) (b:Nat) (p:Int):Option Nat:=if b=0∨p≠(b:Int) - 1 then none else some (bs.getD (b - 1) 0)
def lz (n:Nd) (bs:List Nat):Option Nat :=
 if ar n.op=1 then eg bs bs.length n.x else if ar n.op=2 then (eg bs bs.length n.y).bind (fun b=>eg bs b n.x) else some bs.length
def chkF:List Nd→List Nat→Int×List Nat
 | [],bs=>(0,bs)
 | n :: l,bs=>if okN n≠0 then (okN n,bs) else match lz n bs with
  | none=>(3,bs)
  | some b=>chkF l (bs++[b])
def kt (l:List Nd):Int :=
 if 40 < l.length then 2 else if (chkF l []).1≠0 then (chkF l []).1 else if l.length=0∨(chkF l []).2.getD (l.length - 1) 0≠0 then 3 else 0
def kq (l:List Nd) (bs:List Nat):Prop :=
 bs.length=l.length∧∀ i n,l[i]?=some n→okN n=0∧∃ b,bs[i]?=some b∧lz n (bs.take i)=some b
theorem good_nil:kq [] []:=⟨rfl,by simp⟩
theorem gO {l:List Nd} {bs:List Nat} {n:Nd} {b:Nat} (h:kq l bs) (h1:okN n=0) (h2:lz n bs=some b):kq (l++[n]) (bs++[b]):=by
 refine ⟨by simp [h.1],fun i m hi=>?_⟩
 by_cases hl:i < l.length
 ·rw [List.getElem?_append_left hl] at hi;obtain ⟨a1,c,a2,a3⟩:=h.2 i m hi;exact ⟨a1,c,by rw [List.getElem?_append_left (by rw [h.1];exact hl),a2],by rw [List.take_append_of_le_length (by rw [h.1];omega),a3]⟩
 ·rw [List.getElem?_append_right (by omega)] at hi;have e:i=l.length:=by
   have:=(List.getElem?_eq_some_iff.1 hi).1
   simp at this;omega
  subst e;simp at hi;subst hi;exact ⟨h1,b,by rw [List.getElem?_append_right (by rw [h.1];exact Nat.le_refl _),h.1];simp,by rw [← h.1];simpa using h2⟩
theorem chkF_good:∀ (l pre:List Nd) (bs bs':List Nat),kq pre bs→chkF l bs=(0,bs')→kq (pre++l) bs'
 | [],pre,bs,bs',h,e=>by simp [chkF] at e;subst e;simpa using h
 | n :: l,pre,bs,bs',h,e=>by
  unfold chkF at e
  by_cases h0:okN n=0
  ·rw [if_neg (by simpa using h0)] at e;cases hb:lz n bs with
   | none=>rw [hb] at e;simp at e
   | some b =>
    rw [hb] at e
    have:=chkF_good l (pre++[n]) (bs++[b]) bs' (gO h h0 hb) e
    simpa using this
  ·rw [if_pos h0] at e;simp at e;exact absurd e.1 h0
theorem good_of_chk {l:List Nd} (h:kt l=0):∃ bs,kq l bs∧l.length≤40∧0 < l.length∧bs[l.length - 1]?=some 0:=by
 unfold kt at h
 by_cases h1:40 < l.length
 ·simp [h1] at h
 rw [if_neg h1] at h
 by_cases h2:(chkF l []).1=0
 ·rw [if_neg (by simpa using h2)] at h
  by_cases h3:l.length=0∨(chkF l []).2.getD (l.length - 1) 0≠0
  ·rw [if_pos h3] at h;exact absurd h (by decide)
  ·have g:=chkF_good l [] [] (chkF l []).2 good_nil (by rw [← h2]);simp only [List.nil_append] at g;refine ⟨_,g,by omega,by omega,?_⟩;have h4:(chkF l []).2.getD (l.length - 1) 0=0:=by
    by_cases hh:(chkF l []).2.getD (l.length - 1) 0=0
    ·exact hh
    ·exact absurd (Or.inr hh) h3
   have hl:l.length - 1 < (chkF l []).2.length:=by rw [g.1];omega
   rw [List.getD_eq_getElem?_getD,List.getElem?_eq_getElem hl] at h4;rw [List.getElem?_eq_getElem hl]
   simpa using h4
 ·rw [if_pos h2] at h;exact absurd h h2
theorem cX {bs:List Nat} {b c:Nat} {p:Int} (h:eg bs b p=some c):0 < b∧p=(b:Int) - 1∧c=bs.getD (b - 1) 0:=by
 unfold eg at h
 by_cases hc:b=0∨p≠(b:Int) - 1
 ·simp [hc] at h
 ·rw [if_neg hc] at h;simp only [Option.some.injEq] at h;exact ⟨by omega,by omega,h.symm⟩
theorem fm (bs:List Nat) (i j:Nat) (h:j < i):(bs.take i).getD j 0=bs.getD j 0:=by
 rw [List.getD_eq_getElem?_getD,List.getD_eq_getElem?_getD,List.getElem?_take_of_lt h]
theorem mx {l:List Nd} {bs:List Nat} (h:kq l bs) {i:Nat} {n:Nd} (hi:l[i]?=some n) :
  okN n=0∧0≤ar n.op ∧
  (ar n.op=0→bs.getD i 0=i) ∧
  (ar n.op=1→0 < i∧n.x=(i:Int) - 1∧bs.getD i 0=bs.getD (i - 1) 0) ∧
  (ar n.op=2→0 < i∧n.y=(i:Int) - 1∧0 < bs.getD (i - 1) 0∧n.x=(bs.getD (i - 1) 0:Int) - 1∧bs.getD i 0=(bs.take i).getD (bs.getD (i - 1) 0 - 1) 0):=by
 have hl:=(List.getElem?_eq_some_iff.1 hi).1;obtain ⟨h0,b,h1,h2⟩:=h.2 i n hi;have hb:bs.getD i 0=b:=by rw [List.getD_eq_getElem?_getD,h1];rfl
 have hlen:(bs.take i).length=i:=by rw [List.length_take,h.1];omega
 have ha:0≤ar n.op:=by
  unfold okN at h0
  by_cases hh:lJ n
  ·simp [hh] at h0
  ·unfold lJ at hh;omega
 unfold lz at h2;refine ⟨h0,ha,fun a=>?_,fun a=>?_,fun a=>?_⟩
 ·rw [if_neg (by omega),if_neg (by omega),hlen] at h2;simp at h2;rw [hb];exact h2.symm
 ·rw [if_pos a,hlen] at h2;obtain ⟨c1,c2,c3⟩:=cX h2;exact ⟨c1,c2,by rw [hb,c3,fm _ _ _ (by omega)]⟩
 ·rw [if_neg (by omega),if_pos a,hlen] at h2;cases hs:eg (bs.take i) i n.y with
  | none=>rw [hs] at h2;simp at h2
  | some c =>
   rw [hs] at h2;simp at h2;obtain ⟨c1,c2,c3⟩:=cX hs;obtain ⟨d1,d2,d3⟩:=cX h2;rw [fm _ _ _ (by omega)] at c3;subst c3;exact ⟨c1,c2,d1,d2,by rw [hb,d3]⟩
theorem px {l:List Nd} {bs:List Nat} (h:kq l bs):∀ (i:Nat),i < l.length→bs.getD i 0≤i:=by
 intro i
 induction i using Nat.strongRecOn with
 | ind i ih =>
  intro hi;obtain ⟨-,a0,a1,a2,a3⟩:=mx h (List.getElem?_eq_getElem hi)
  have:=qi l[i].op
  rcases (by omega:ar l[i].op=0∨ar l[i].op=1∨ar l[i].op=2) with e | e | e
  ·rw [a1 e];exact Nat.le_refl _
  ·obtain ⟨b1,-,b2⟩:=a2 e;rw [b2]
   have:=ih (i - 1) (by omega) (by omega)
   omega
  ·obtain ⟨b1,-,b2,-,b4⟩:=a3 e;have c:=ih (i - 1) (by omega) (by omega);rw [b4,fm _ _ _ (by omega)]
   have:=ih (bs.getD (i - 1) 0 - 1) (by omega) (by omega)
   omega
theorem good_part {l:List Nd} {bs:List Nat} (h:kq l bs) {i:Nat} {n:Nd} (hi:l[i]?=some n) :
  (1≤ar n.op→0≤n.x∧n.x < i∧bs.getD n.x.toNat 0=bs.getD i 0)∧(ar n.op=2→n.y=(i:Int) - 1∧0 < i∧(bs.getD (i - 1) 0:Int)=n.x+1):=by
 have hl:=(List.getElem?_eq_some_iff.1 hi).1;obtain ⟨-,a0,a1,a2,a3⟩:=mx h hi;have hle:=px h
 have:=qi n.op
 refine ⟨fun a=>?_,fun a=>?_⟩
 ·rcases (by omega:ar n.op=1∨ar n.op=2) with e | e
  ·obtain ⟨b1,b2,b3⟩:=a2 e;refine ⟨by omega,by omega,?_⟩;rw [b3,b2]
   congr 1
   omega
  ·obtain ⟨b1,b2,b3,b4,b5⟩:=a3 e;have c:=hle (i - 1) (by omega);refine ⟨by omega,by omega,?_⟩;rw [b5,fm _ _ _ (by omega),b4]
   congr 1
   omega
 ·obtain ⟨b1,b2,b3,b4,b5⟩:=a3 a;exact ⟨b2,b1,by omega⟩
def mv (by_:Int) (n:Nd):Nd:=if ar n.op=1 then { n with x:=n.x+by_ } else if ar n.op=2 then { n with x:=n.x+by_,y:=n.y+by_ } else n
theorem mv_op (c:Int) (n:Nd):(mv c n).op=n.op:=by unfold mv;(repeat' split);all_goals rfl
theorem mv_zero (n:Nd):mv 0 n=n:=by unfold mv;(repeat' split);all_goals simp
theorem jo (l:List Nd):l.map (mv 0)=l:=by
 induction l with
 | nil=>rfl
 | cons a l ih=>simp [mv_zero,ih]
theorem mv_ok (c:Int) (n:Nd):okN (mv c n)=okN n:=by
 unfold mv
 by_cases h1:ar n.op=1
 ·simp [h1,okN,lJ]
 ·by_cases h2:ar n.op=2
  ·simp [h2,okN,lJ]
  ·simp [h1,h2]
theorem kC (B bs:List Nat) (b:Nat) (p:Int) (hb:b≤bs.length) (h:∃ c,eg bs b p=some c) :
  eg (B++bs.map (·+B.length)) (b+B.length) (p+B.length)=(eg bs b p).map (·+B.length):=by
 obtain ⟨c,h⟩:=h;obtain ⟨c1,c2,c3⟩:=cX h;rw [h];unfold eg;rw [if_neg (by omega)];simp only [Option.map_some,Option.some.injEq];rw [c3,List.getD_eq_getElem?_getD,List.getD_eq_getElem?_getD,List.getElem?_append_right (by omega),show b+B.length - 1 - B.length=b - 1 from by omega,List.getElem?_map,List.getElem?_eq_getElem (by omega)]
 rfl
theorem begN_mv (B bs:List Nat) (n:Nd) (c:Nat) (hle:∀ j,j < bs.length→bs.getD j 0≤j) (h:lz n bs=some c):lz (mv B.length n) (B++bs.map (·+B.length))=some (c+B.length):=by
 have hop:=mv_op B.length n;have hlen:(B++bs.map (·+B.length)).length=bs.length+B.length:=by simp;omega
 unfold lz at h ⊢;rw [hop,hlen]
 by_cases h1:ar n.op=1
 ·rw [if_pos h1] at h ⊢;have e:(mv B.length n).x=n.x+B.length:=by unfold mv;rw [if_pos h1]
  rw [e,kC B bs _ _ (Nat.le_refl _) ⟨c,h⟩,h]
  rfl
 ·rw [if_neg h1] at h ⊢
  by_cases h2:ar n.op=2
  ·rw [if_pos h2] at h ⊢;have e:(mv B.length n).x=n.x+B.length:=by unfold mv;rw [if_neg h1,if_pos h2]
   have e':(mv B.length n).y=n.y+B.length:=by unfold mv;rw [if_neg h1,if_pos h2]
   cases hs:eg bs bs.length n.y with
   | none=>rw [hs] at h;simp at h
   | some d =>
    rw [hs] at h;simp at h;rw [e,e',kC B bs _ _ (Nat.le_refl _) ⟨d,hs⟩,hs];simp only [Option.map_some,Option.bind_some];obtain ⟨c1,c2,c3⟩:=cX hs;have hd:d≤bs.length:=by
     have:=hle (bs.length - 1) (by omega)
     omega
    rw [kC B bs d _ hd ⟨c,h⟩,h]
    rfl
  ·rw [if_neg h2] at h ⊢;simp at h
   simp [h]
theorem good_join {l m:List Nd} {bl bm:List Nat} (h1:kq l bl) (h2:kq m bm):kq (l++m.map (mv l.length)) (bl++bm.map (·+l.length)):=by
 refine ⟨by simp [h1.1,h2.1],fun i n hi=>?_⟩
 by_cases hl:i < l.length
 ·rw [List.getElem?_append_left hl] at hi;obtain ⟨a1,c,a2,a3⟩:=h1.2 i n hi;exact ⟨a1,c,by rw [List.getElem?_append_left (by rw [h1.1];exact hl),a2],by rw [List.take_append_of_le_length (by rw [h1.1];omega),a3]⟩
 ·rw [List.getElem?_append_right (by omega),List.getElem?_map] at hi;cases hm:m[i - l.length]? with
  | none=>rw [hm] at hi;simp at hi
  | some n' =>
   rw [hm] at hi;simp at hi;subst hi;obtain ⟨a1,c,a2,a3⟩:=h2.2 _ n' hm;have hlm:=(List.getElem?_eq_some_iff.1 hm).1;refine ⟨by rw [mv_ok,a1],c+l.length,by rw [List.getElem?_append_right (by rw [h1.1];omega),h1.1,List.getElem?_map,a2];rfl,?_⟩;rw [List.take_append,List.take_of_length_le (by rw [h1.1];omega),h1.1,← List.map_take]
   have:=begN_mv bl (bm.take (i - l.length)) n' c (fun j hj=>by
    have hj':j < i - l.length:=by
     have:=List.length_take_le (i - l.length) bm
     omega
    rw [fm _ _ _ hj'];exact px h2 j (by omega)) a3
   rw [h1.1] at this;exact this
def nth (vs:List V2) (at_:Int):V2:=if at_ < 0∨(vs.length:Int)≤at_ then (0,0) else vs.getD at_.toNat (0,0)
def evN (O:Int→V2→V2→V2) (ev:List V2) (n:Nd) (vs:List V2):V2 :=
 if n.op=1 then (n.k,n.v) else if n.op=2 then nth ev n.n else if ar n.op=1 then O n.op (nth vs n.x) (0,0) else O n.op (nth vs n.x) (nth vs n.y)
def evF (O:Int→V2→V2→V2) (ev:List V2):List Nd→List V2→List V2
 | [],vs=>vs
 | n :: l,vs=>evF O ev l (vs++[evN O ev n vs])
def evL (O:Int→V2→V2→V2) (ev:List V2) (l:List Nd):V2:=nth (evF O ev l []) ((l.length:Int) - 1)
theorem pf (O:Int→V2→V2→V2) (ev:List V2):∀ (l m:List Nd) (vs:List V2),evF O ev (l++m) vs=evF O ev m (evF O ev l vs)
 | [],m,vs=>rfl
 | n :: l,m,vs=>by simp only [List.cons_append,evF];exact pf O ev l m _
theorem oP (O:Int→V2→V2→V2) (ev:List V2):∀ (l:List Nd) (vs:List V2),(evF O ev l vs).length=vs.length+l.length
 | [],vs=>rfl
 | n :: l,vs=>by simp only [evF];rw [oP O ev l];simp;omega
def gJ (op:Int) (l m:List Nd):List Nd:=l++m.map (mv l.length)++[⟨op,(l.length:Int) - 1,(l.length:Int)+m.length - 1,0,0,0⟩]
def fw (op:Int) (l:List Nd):List Nd:=l++[⟨op,(l.length:Int) - 1,0,0,0,0⟩]
theorem qr {op:Int} (h:1≤ar op):op≠1∧op≠2:=by
 constructor <;> (intro e;rw [e] at h;exact absurd h (by decide))
theorem nth_last (vs:List V2) (v:V2):nth (vs++[v]) ((vs.length+1:Nat) - 1:Int)=v:=by
 unfold nth;rw [if_neg (by simp;omega),List.getD_eq_getElem?_getD,show ((vs.length+1:Nat) - 1:Int).toNat=vs.length from by omega]
 simp
theorem ev_join1 (O:Int→V2→V2→V2) (ev:List V2) (op:Int) (l:List Nd) (ho:ar op=1) :
  evL O ev (fw op l)=O op (evL O ev l) (0,0):=by
 obtain ⟨n1,n2⟩:=qr (by omega:1≤ar op);unfold evL fw;rw [pf];simp only [evF];have hlen:(l++[(⟨op,(l.length:Int) - 1,0,0,0,0⟩:Nd)]).length=(evF O ev l []).length+1:=by simp [oP]
 rw [hlen,nth_last];unfold evN;rw [if_neg n1,if_neg n2,if_pos ho]
theorem okN_new (op x y:Int) (h:ar op=2):okN ⟨op,x,y,0,0,0⟩=0:=by
 have h1:=qr (by omega:1≤ar op);have hb:¬ lJ ⟨op,x,y,0,0,0⟩:=by unfold lJ;simp [h1.1,h1.2,h]
 unfold okN;rw [if_neg hb]
 rfl
theorem okN_new1 (op x:Int) (h:ar op=1):okN ⟨op,x,0,0,0,0⟩=0:=by
 have h1:=qr (by omega:1≤ar op);have hb:¬ lJ ⟨op,x,0,0,0,0⟩:=by unfold lJ;simp [h1.1,h1.2,h]
 unfold okN;rw [if_neg hb]
 rfl
theorem getD_of {bs:List Nat} {i b:Nat} (h:bs[i]?=some b):bs.getD i 0=b:=by rw [List.getD_eq_getElem?_getD,h];rfl
theorem good_joinL {op:Int} {l m:List Nd} {bl bm:List Nat} (hl:kq l bl) (hm:kq m bm) (h0:0 < l.length) (h1:0 < m.length) (b0:bl[l.length - 1]?=some 0) (b1:bm[m.length - 1]?=some 0) (ho:ar op=2) :
  kq (gJ op l m) (bl++bm.map (·+l.length)++[0]):=by
 refine gO (good_join hl hm) (okN_new _ _ _ ho) ?_;unfold lz
 simp only
 rw [if_neg (by omega),if_pos ho];have hlen:(bl++bm.map (·+l.length)).length=l.length+m.length:=by simp [hl.1,hm.1]
 rw [hlen];have s1:eg (bl++bm.map (·+l.length)) (l.length+m.length) ((l.length:Int)+m.length - 1)=some l.length:=by
  unfold eg;rw [if_neg (by omega)]
  congr 1
  rw [List.getD_eq_getElem?_getD,List.getElem?_append_right (by rw [hl.1];omega),hl.1,List.getElem?_map,show l.length+m.length - 1 - l.length=m.length - 1 from by omega,b1]
  simp
 rw [s1];simp only [Option.bind_some];unfold eg;rw [if_neg (by omega)]
 congr 1
 rw [List.getD_eq_getElem?_getD,List.getElem?_append_left (by rw [hl.1];omega),b0]
 rfl
theorem good_join1 {op:Int} {l:List Nd} {bl:List Nat} (hl:kq l bl) (h0:0 < l.length) (b0:bl[l.length - 1]?=some 0) (ho:ar op=1) :
  kq (fw op l) (bl++[0]):=by
 refine gO hl (okN_new1 _ _ ho) ?_;unfold lz
 simp only
 rw [if_pos ho,hl.1];unfold eg;rw [if_neg (by omega)]
 congr 1
 exact getD_of b0
theorem getD_last (bs:List Nat) (b:Nat):(bs++[b]).getD bs.length 0=b:=by
 rw [List.getD_eq_getElem?_getD]
 simp
def goes (op k:Int):Bool:=if op=4∨op=9∨op=10 then !(k == 1) else if op=5 then true else !(k == 2)
def kindN (n:Nd):Int:=if n.op=1 then n.k else if n.op=4∨n.op=5∨n.op=9∨n.op=10∨n.op=11∨n.op=12 then 2 else 1
def od (op:Int) (ks:List Int) (p:Int):Bool:=if p < 0∨(ks.length:Int)≤p then false else goes op (ks.getD p.toNat 0)
def qH (n:Nd) (ks:List Int):Bool:=if ar n.op=1 then od n.op ks n.x else if ar n.op=2 then (if od n.op ks n.y then od n.op ks n.x else false) else true
def tyF:List Nd→List Int→Option (List Int)
 | [],ks=>some ks
 | n :: l,ks=>if qH n ks then tyF l (ks++[kindN n]) else none
def tyE (l:List Nd):V2:=if l.length=0 then (0,3) else match tyF l [] with
 | none=>(0,3)
 | some ks=>(ks.getD (l.length - 1) 0,0)
end Go.Proofs.YtcgjflamgnjhcaaGreatDoor

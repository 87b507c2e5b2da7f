/- Own texts in one. Conditions: as named in each. -/
import Derived.Test.YtcgjflamgnjhcaaGreatDoorKinJ
import Derived.Deep.QuietTactic
import Derived.BigQuiet
import Derived.RegionTactic
import Derived.Deep.RegionWith
set_option linter.unusedVariables false
set_option linter.unusedSimpArgs false
set_option maxRecDepth 100000
set_option maxHeartbeats 8000000
namespace Go.Proofs.YtcgjflamgnjhcaaGreatDoor
open Go.ChangeShapes Go.WideShapes Go.ChangeAt Go.RowKit
theorem cE (w:World) :
  Calls Tryz.prog 125 #[] w fun e w'=>e=.returned (.agg #[.int .i64 0,.int .i64 0])∧w'=w.alloc (.cells #[.int .i64 0,.int .i64 0] 41):=by
 go_enter Tryz.func125,Tryz.ntmps125
 go_wp2
 exact bodyPost_ret (v:=.agg #[.int .i64 0,.int .i64 0]) (by simp [results,Tryz.results125,go_sem]) rfl ⟨rfl,rfl⟩
theorem cS (b:Bool) (w:World) :
  Calls Tryz.prog 124 #[.bool b] w fun e w'=>e=.returned (.agg #[.int .i64 2,.int .i64 (if b then 1 else 0)])∧w'=w.alloc (.cells #[.int .i64 2,.int .i64 (if b then 1 else 0)] 41):=by
 cases b
 ·go_enter Tryz.func124,Tryz.ntmps124
  go_wp2
  exact bodyPost_ret (v:=.agg #[.int .i64 2,.int .i64 0]) (by simp [results,Tryz.results124,go_sem]) rfl ⟨rfl,rfl⟩
 ·go_enter Tryz.func124,Tryz.ntmps124
  go_wp2
  exact bodyPost_ret (v:=.agg #[.int .i64 2,.int .i64 1]) (by simp [results,Tryz.results124,go_sem]) rfl ⟨rfl,rfl⟩
theorem d7 (w:World) :
  Calls Tryz.prog 125 #[] w fun e w'=>e=.returned (.agg #[.int .i64 0,.int .i64 0])∧Below w.heap.size w w' :=
 (cE w).mono fun e w' ⟨h1,h2⟩=>⟨h1,by rw [h2];exact (Below.refl _ _).alloc (Nat.le_refl _) _⟩
def numK (n:Int):Int:=if -1000000000≤n∧n≤1000000000 then 1 else 0
def numN (n:Int):Int:=if -1000000000≤n∧n≤1000000000 then n else 0
theorem bN (n:Int) (w:World) :
  Calls Tryz.prog 158 #[.int .i64 n] w fun e w'=>e=.returned (.agg #[.int .i64 (numK n),.int .i64 (numN n)])∧Below w.heap.size w w':=by
 by_cases h1:n < -1000000000
 ·have e1:numK n=0:=by unfold numK;rw [if_neg (by omega)]
  have e2:numN n=0:=by unfold numN;rw [if_neg (by omega)]
  rw [e1,e2];clear e1 e2
  go_enter Tryz.func158,Tryz.ntmps158
  go_wp2_with (go_at_call 125;refine (cE _).mono ?_;rintro e w' ⟨rfl,rfl⟩)
  refine bodyPost_ret (v:=.agg #[.int .i64 0,.int .i64 0]) (by simp [results,Tryz.results158,go_sem]) rfl ⟨rfl,?_⟩
  repeat (first | exact Below.refl _ _ | refine Below.alloc ?_ (by simp) _ | refine Below.setCell ?_ (by simp) _)
 ·by_cases h2:1000000000 < n
  ·have e1:numK n=0:=by unfold numK;rw [if_neg (by omega)]
   have e2:numN n=0:=by unfold numN;rw [if_neg (by omega)]
   rw [e1,e2];clear e1 e2
   go_enter Tryz.func158,Tryz.ntmps158
   go_wp2_with (go_at_call 125;refine (cE _).mono ?_;rintro e w' ⟨rfl,rfl⟩)
   refine bodyPost_ret (v:=.agg #[.int .i64 0,.int .i64 0]) (by simp [results,Tryz.results158,go_sem]) rfl ⟨rfl,?_⟩
   repeat (first | exact Below.refl _ _ | refine Below.alloc ?_ (by simp) _ | refine Below.setCell ?_ (by simp) _)
  ·have e1:numK n=1:=by unfold numK;rw [if_pos (by omega)]
   have e2:numN n=n:=by unfold numN;rw [if_pos (by omega)]
   rw [e1,e2];clear e1 e2
   go_enter Tryz.func158,Tryz.ntmps158
   go_wp2
   refine bodyPost_ret (v:=.agg #[.int .i64 1,.int .i64 n]) (by simp [results,Tryz.results158,go_sem]) rfl ⟨rfl,?_⟩
   repeat (first | exact Below.refl _ _ | refine Below.alloc ?_ (by simp) _ | refine Below.setCell ?_ (by simp) _)
def vok (k n:Int):Bool:=decide ((k=0∧n=0)∨(k=1∧-1000000000≤n∧n≤1000000000)∨(k=2∧(n=0∨n=1)))
theorem lO (k n:Int) (w:World) (h:vok k n=true) :
  Calls Tryz.prog 122 #[.agg #[.int .i64 k,.int .i64 n]] w fun e w'=>e=.returned .nilIface∧Below w.heap.size w w':=by
 have h':=of_decide_eq_true h;clear h
 rcases h' with ⟨rfl,rfl⟩ | ⟨rfl,h1,h2⟩ | ⟨rfl,rfl | rfl⟩
 all_goals
  go_enter Tryz.func122,Tryz.ntmps122
  go_wp2
  go_ret
  exact ⟨rfl,(Below.refl _ _).alloc (Nat.le_refl _) _⟩
theorem nx (k n:Int) (w:World) (h:vok k n=false) :
  Calls Tryz.prog 122 #[.agg #[.int .i64 k,.int .i64 n]] w fun e w'=>e=.returned (.iface 93 (.int .i64 3))∧Below w.heap.size w w':=by
 have h':=of_decide_eq_false h;clear h
 by_cases k0:k=0
 ·subst k0;have hn:(n == 0)=false:=by simp;omega
  clear h'
  go_enter Tryz.func122,Tryz.ntmps122
  go_wp2
  go_ret
  exact ⟨rfl,(Below.refl _ _).alloc (Nat.le_refl _) _⟩
 ·by_cases k1:k=1
  ·subst k1
   by_cases l:-1000000000≤n
   ·have l2:decide (n≤1000000000)=false:=by simp;omega
    clear h' k0
    go_enter Tryz.func122,Tryz.ntmps122
    go_wp2
    go_ret
    exact ⟨rfl,(Below.refl _ _).alloc (Nat.le_refl _) _⟩
   ·clear h' k0
    go_enter Tryz.func122,Tryz.ntmps122
    go_wp2
    go_ret
    exact ⟨rfl,(Below.refl _ _).alloc (Nat.le_refl _) _⟩
  ·by_cases k2:k=2
   ·subst k2;have a1:(n == 0)=false:=by simp;omega
    have a2:(n == 1)=false:=by simp;omega
    clear h' k0 k1
    go_enter Tryz.func122,Tryz.ntmps122
    go_wp2
    go_ret
    exact ⟨rfl,(Below.refl _ _).alloc (Nat.le_refl _) _⟩
   ·have a0:(k == 0)=false:=by simp;omega
    have a1:(k == 1)=false:=by simp;omega
    have a2:(k == 2)=false:=by simp;omega
    clear h' k0 k1 k2
    go_enter Tryz.func122,Tryz.ntmps122
    go_wp2
    go_ret
    exact ⟨rfl,(Below.refl _ _).alloc (Nat.le_refl _) _⟩
theorem cK (w:World) (a b c d:Int):(binOp .eql 41 (.agg #[.int .i64 a,.int .i64 b]) (.agg #[.int .i64 c,.int .i64 d])).run Tryz.prog w=.ok (.bool (a == c && b == d)) w:=by
 by_cases h:a=c
 ·subst h
  by_cases h2:b=d
  ·subst h2;go_simp
  ·have:(b == d)=false:=by simp [h2]
   go_simp
 ·have:(a == c)=false:=by simp [h]
  go_simp
theorem cM (w:World) (a b c d:Int):(binOp .neq 41 (.agg #[.int .i64 a,.int .i64 b]) (.agg #[.int .i64 c,.int .i64 d])).run Tryz.prog w=.ok (.bool (!(a == c && b == d))) w:=by
 by_cases h:a=c
 ·subst h
  by_cases h2:b=d
  ·subst h2;go_simp
  ·have:(b == d)=false:=by simp [h2]
   go_simp
 ·have:(a == c)=false:=by simp [h]
  go_simp
end Go.Proofs.YtcgjflamgnjhcaaGreatDoor
namespace Go.Proofs.YtcgjflamgnjhcaaGreatDoor
open Go.ChangeShapes Go.WideShapes Go.ChangeAt Go.RowKit
def isF (k n:Int):Bool:=k == 2 && n == 0
def isT (k n:Int):Bool:=k == 2 && n == 1
def ma (k1 n1 k2 n2:Int):Int:=if isF k1 n1 || isF k2 n2 then 2 else if isT k1 n1 && isT k2 n2 then 2 else 0
def m8 (k1 n1 k2 n2:Int):Int:=if isF k1 n1 || isF k2 n2 then 0 else if isT k1 n1 && isT k2 n2 then 1 else 0
def orK (k1 n1 k2 n2:Int):Int:=if isT k1 n1 || isT k2 n2 then 2 else if isF k1 n1 && isF k2 n2 then 2 else 0
def orN (k1 n1 k2 n2:Int):Int:=if isT k1 n1 || isT k2 n2 then 1 else 0
attribute [local go_sem ↓] cK cM
theorem bi (w:World) (a b c:Obj):Below w.heap.size w (((w.alloc a).alloc b).alloc c):=((((Below.refl _ _).alloc (Nat.le_refl _) _).alloc (by simp) _).alloc (by simp;omega) _)
theorem aT (b:Bool) (w:World) :
  Calls Tryz.prog 124 #[.bool b] w fun e w'=>e=.returned (.agg #[.int .i64 2,.int .i64 (if b then 1 else 0)])∧Below w.heap.size w w' :=
 (cS b w).mono fun e w' ⟨h1,h2⟩=>⟨h1,by rw [h2];exact (Below.refl _ _).alloc (Nat.le_refl _) _⟩
theorem and_1 (k1 n1 k2 n2:Int) (w:World) (q1F:isF k1 n1=true) :
  Calls Tryz.prog 187 #[.agg #[.int .i64 k1,.int .i64 n1],.agg #[.int .i64 k2,.int .i64 n2]] w fun e w'=>e=.returned (.agg #[.int .i64 2,.int .i64 0])∧Below w.heap.size w w':=by
 have HB:Hid (Below (((w.alloc (.cells #[.int .i64 k1,.int .i64 n1] 41)).alloc (.cells #[.int .i64 k2,.int .i64 n2] 41)).alloc (.cells #[.int .i64 0,.int .i64 0] 41)).heap.size (((w.alloc (.cells #[.int .i64 k1,.int .i64 n1] 41)).alloc (.cells #[.int .i64 k2,.int .i64 n2] 41)).alloc (.cells #[.int .i64 0,.int .i64 0] 41)) (((w.alloc (.cells #[.int .i64 k1,.int .i64 n1] 41)).alloc (.cells #[.int .i64 k2,.int .i64 n2] 41)).alloc (.cells #[.int .i64 0,.int .i64 0] 41))):=Below.refl _ _;have kn:=bJ (((w.alloc (.cells #[.int .i64 k1,.int .i64 n1] 41)).alloc (.cells #[.int .i64 k2,.int .i64 n2] 41)).alloc (.cells #[.int .i64 0,.int .i64 0] 41));have kr:=bB (((w.alloc (.cells #[.int .i64 k1,.int .i64 n1] 41)).alloc (.cells #[.int .i64 k2,.int .i64 n2] 41)).alloc (.cells #[.int .i64 0,.int .i64 0] 41));obtain ⟨kc,kf⟩:=kr;have g1F:(k1 == 2 && n1 == 0)=true:=q1F;clear q1F
 go_enter Tryz.func187,Tryz.ntmps187
 go_wp2
 refine aE HB (by kernel_rfl) (by kernel_rfl) ?_
 repeat (go_big_quiet_step ((go_at_call 124;exact cF (aT _ _))))
 refine wpQuiet_nil ?_;rintro _ ⟨p,rfl⟩;have HB:Hid _:=p.h
 go_wp2_with (first | (go_at_call 124;refine (aT _ _).mono ?_;rintro e w1 ⟨rfl,hb⟩;have HB:=nxt HB hb;obtain ⟨hc,hf⟩:=rules HB;clear hb) | (go_at_call 125;refine (d7 _).mono ?_;rintro e w1 ⟨rfl,hb⟩;have HB:=nxt HB hb;obtain ⟨hc,hf⟩:=rules HB;clear hb))
 exact bodyPost_ret (v:=.agg #[.int .i64 2,.int .i64 0]) (by simp [results,Tryz.results187,go_sem,hc,hf]) rfl ⟨rfl,ended HB (bi _ _ _ _) _ _⟩
theorem and_2 (k1 n1 k2 n2:Int) (w:World) (q1F:isF k1 n1=false) (q2F:isF k2 n2=true) :
  Calls Tryz.prog 187 #[.agg #[.int .i64 k1,.int .i64 n1],.agg #[.int .i64 k2,.int .i64 n2]] w fun e w'=>e=.returned (.agg #[.int .i64 2,.int .i64 0])∧Below w.heap.size w w':=by
 have HB:Hid (Below (((w.alloc (.cells #[.int .i64 k1,.int .i64 n1] 41)).alloc (.cells #[.int .i64 k2,.int .i64 n2] 41)).alloc (.cells #[.int .i64 0,.int .i64 0] 41)).heap.size (((w.alloc (.cells #[.int .i64 k1,.int .i64 n1] 41)).alloc (.cells #[.int .i64 k2,.int .i64 n2] 41)).alloc (.cells #[.int .i64 0,.int .i64 0] 41)) (((w.alloc (.cells #[.int .i64 k1,.int .i64 n1] 41)).alloc (.cells #[.int .i64 k2,.int .i64 n2] 41)).alloc (.cells #[.int .i64 0,.int .i64 0] 41))):=Below.refl _ _;have kn:=bJ (((w.alloc (.cells #[.int .i64 k1,.int .i64 n1] 41)).alloc (.cells #[.int .i64 k2,.int .i64 n2] 41)).alloc (.cells #[.int .i64 0,.int .i64 0] 41));have kr:=bB (((w.alloc (.cells #[.int .i64 k1,.int .i64 n1] 41)).alloc (.cells #[.int .i64 k2,.int .i64 n2] 41)).alloc (.cells #[.int .i64 0,.int .i64 0] 41));obtain ⟨kc,kf⟩:=kr;have g1F:(k1 == 2 && n1 == 0)=false:=q1F;clear q1F;have g2F:(k2 == 2 && n2 == 0)=true:=q2F;clear q2F
 go_enter Tryz.func187,Tryz.ntmps187
 go_wp2
 refine aE HB (by kernel_rfl) (by kernel_rfl) ?_
 repeat (go_big_quiet_step ((go_at_call 124;exact cF (aT _ _))))
 refine wpQuiet_nil ?_;rintro _ ⟨p,rfl⟩;have HB:Hid _:=p.h
 go_wp2_with (first | (go_at_call 124;refine (aT _ _).mono ?_;rintro e w1 ⟨rfl,hb⟩;have HB:=nxt HB hb;obtain ⟨hc,hf⟩:=rules HB;clear hb) | (go_at_call 125;refine (d7 _).mono ?_;rintro e w1 ⟨rfl,hb⟩;have HB:=nxt HB hb;obtain ⟨hc,hf⟩:=rules HB;clear hb))
 exact bodyPost_ret (v:=.agg #[.int .i64 2,.int .i64 0]) (by simp [results,Tryz.results187,go_sem,hc,hf]) rfl ⟨rfl,ended HB (bi _ _ _ _) _ _⟩
theorem and_3 (k1 n1 k2 n2:Int) (w:World) (q1F:isF k1 n1=false) (q2F:isF k2 n2=false) (q1T:isT k1 n1=true) (q2T:isT k2 n2=true) :
  Calls Tryz.prog 187 #[.agg #[.int .i64 k1,.int .i64 n1],.agg #[.int .i64 k2,.int .i64 n2]] w fun e w'=>e=.returned (.agg #[.int .i64 2,.int .i64 1])∧Below w.heap.size w w':=by
 have HB:Hid (Below (((w.alloc (.cells #[.int .i64 k1,.int .i64 n1] 41)).alloc (.cells #[.int .i64 k2,.int .i64 n2] 41)).alloc (.cells #[.int .i64 0,.int .i64 0] 41)).heap.size (((w.alloc (.cells #[.int .i64 k1,.int .i64 n1] 41)).alloc (.cells #[.int .i64 k2,.int .i64 n2] 41)).alloc (.cells #[.int .i64 0,.int .i64 0] 41)) (((w.alloc (.cells #[.int .i64 k1,.int .i64 n1] 41)).alloc (.cells #[.int .i64 k2,.int .i64 n2] 41)).alloc (.cells #[.int .i64 0,.int .i64 0] 41))):=Below.refl _ _;have kn:=bJ (((w.alloc (.cells #[.int .i64 k1,.int .i64 n1] 41)).alloc (.cells #[.int .i64 k2,.int .i64 n2] 41)).alloc (.cells #[.int .i64 0,.int .i64 0] 41));have kr:=bB (((w.alloc (.cells #[.int .i64 k1,.int .i64 n1] 41)).alloc (.cells #[.int .i64 k2,.int .i64 n2] 41)).alloc (.cells #[.int .i64 0,.int .i64 0] 41));obtain ⟨kc,kf⟩:=kr;have g1F:(k1 == 2 && n1 == 0)=false:=q1F;clear q1F;have g2F:(k2 == 2 && n2 == 0)=false:=q2F;clear q2F;have g1T:(k1 == 2 && n1 == 1)=true:=q1T;clear q1T;have g2T:(k2 == 2 && n2 == 1)=true:=q2T;clear q2T
 go_enter Tryz.func187,Tryz.ntmps187
 go_wp2
 refine aE HB (by kernel_rfl) (by kernel_rfl) ?_
 repeat (go_big_quiet_step ((go_at_call 124;exact cF (aT _ _))))
 refine wpQuiet_nil ?_;rintro _ ⟨p,rfl⟩;have HB:Hid _:=p.h
 go_wp2
 refine aE HB (by kernel_rfl) (by kernel_rfl) ?_
 repeat (go_big_quiet_step ((go_at_call 124;exact cF (aT _ _))))
 refine wpQuiet_nil ?_;rintro _ ⟨p,rfl⟩;have HB:Hid _:=p.h
 go_wp2_with (first | (go_at_call 124;refine (aT _ _).mono ?_;rintro e w1 ⟨rfl,hb⟩;have HB:=nxt HB hb;obtain ⟨hc,hf⟩:=rules HB;clear hb) | (go_at_call 125;refine (d7 _).mono ?_;rintro e w1 ⟨rfl,hb⟩;have HB:=nxt HB hb;obtain ⟨hc,hf⟩:=rules HB;clear hb))
 exact bodyPost_ret (v:=.agg #[.int .i64 2,.int .i64 1]) (by simp [results,Tryz.results187,go_sem,hc,hf]) rfl ⟨rfl,ended HB (bi _ _ _ _) _ _⟩
theorem and_4 (k1 n1 k2 n2:Int) (w:World) (q1F:isF k1 n1=false) (q2F:isF k2 n2=false) (q1T:isT k1 n1=true) (q2T:isT k2 n2=false) :
  Calls Tryz.prog 187 #[.agg #[.int .i64 k1,.int .i64 n1],.agg #[.int .i64 k2,.int .i64 n2]] w fun e w'=>e=.returned (.agg #[.int .i64 0,.int .i64 0])∧Below w.heap.size w w':=by
 have HB:Hid (Below (((w.alloc (.cells #[.int .i64 k1,.int .i64 n1] 41)).alloc (.cells #[.int .i64 k2,.int .i64 n2] 41)).alloc (.cells #[.int .i64 0,.int .i64 0] 41)).heap.size (((w.alloc (.cells #[.int .i64 k1,.int .i64 n1] 41)).alloc (.cells #[.int .i64 k2,.int .i64 n2] 41)).alloc (.cells #[.int .i64 0,.int .i64 0] 41)) (((w.alloc (.cells #[.int .i64 k1,.int .i64 n1] 41)).alloc (.cells #[.int .i64 k2,.int .i64 n2] 41)).alloc (.cells #[.int .i64 0,.int .i64 0] 41))):=Below.refl _ _;have kn:=bJ (((w.alloc (.cells #[.int .i64 k1,.int .i64 n1] 41)).alloc (.cells #[.int .i64 k2,.int .i64 n2] 41)).alloc (.cells #[.int .i64 0,.int .i64 0] 41));have kr:=bB (((w.alloc (.cells #[.int .i64 k1,.int .i64 n1] 41)).alloc (.cells #[.int .i64 k2,.int .i64 n2] 41)).alloc (.cells #[.int .i64 0,.int .i64 0] 41));obtain ⟨kc,kf⟩:=kr;have g1F:(k1 == 2 && n1 == 0)=false:=q1F;clear q1F;have g2F:(k2 == 2 && n2 == 0)=false:=q2F;clear q2F;have g1T:(k1 == 2 && n1 == 1)=true:=q1T;clear q1T;have g2T:(k2 == 2 && n2 == 1)=false:=q2T;clear q2T
 go_enter Tryz.func187,Tryz.ntmps187
 go_wp2
 refine aE HB (by kernel_rfl) (by kernel_rfl) ?_
 repeat (go_big_quiet_step ((go_at_call 124;exact cF (aT _ _))))
 refine wpQuiet_nil ?_;rintro _ ⟨p,rfl⟩;have HB:Hid _:=p.h
 go_wp2
 refine aE HB (by kernel_rfl) (by kernel_rfl) ?_
 repeat (go_big_quiet_step ((go_at_call 124;exact cF (aT _ _))))
 refine wpQuiet_nil ?_;rintro _ ⟨p,rfl⟩;have HB:Hid _:=p.h
 go_wp2_with (first | (go_at_call 124;refine (aT _ _).mono ?_;rintro e w1 ⟨rfl,hb⟩;have HB:=nxt HB hb;obtain ⟨hc,hf⟩:=rules HB;clear hb) | (go_at_call 125;refine (d7 _).mono ?_;rintro e w1 ⟨rfl,hb⟩;have HB:=nxt HB hb;obtain ⟨hc,hf⟩:=rules HB;clear hb))
 exact bodyPost_ret (v:=.agg #[.int .i64 0,.int .i64 0]) (by simp [results,Tryz.results187,go_sem,hc,hf]) rfl ⟨rfl,ended HB (bi _ _ _ _) _ _⟩
theorem and_5 (k1 n1 k2 n2:Int) (w:World) (q1F:isF k1 n1=false) (q2F:isF k2 n2=false) (q1T:isT k1 n1=false) :
  Calls Tryz.prog 187 #[.agg #[.int .i64 k1,.int .i64 n1],.agg #[.int .i64 k2,.int .i64 n2]] w fun e w'=>e=.returned (.agg #[.int .i64 0,.int .i64 0])∧Below w.heap.size w w':=by
 have HB:Hid (Below (((w.alloc (.cells #[.int .i64 k1,.int .i64 n1] 41)).alloc (.cells #[.int .i64 k2,.int .i64 n2] 41)).alloc (.cells #[.int .i64 0,.int .i64 0] 41)).heap.size (((w.alloc (.cells #[.int .i64 k1,.int .i64 n1] 41)).alloc (.cells #[.int .i64 k2,.int .i64 n2] 41)).alloc (.cells #[.int .i64 0,.int .i64 0] 41)) (((w.alloc (.cells #[.int .i64 k1,.int .i64 n1] 41)).alloc (.cells #[.int .i64 k2,.int .i64 n2] 41)).alloc (.cells #[.int .i64 0,.int .i64 0] 41))):=Below.refl _ _;have kn:=bJ (((w.alloc (.cells #[.int .i64 k1,.int .i64 n1] 41)).alloc (.cells #[.int .i64 k2,.int .i64 n2] 41)).alloc (.cells #[.int .i64 0,.int .i64 0] 41));have kr:=bB (((w.alloc (.cells #[.int .i64 k1,.int .i64 n1] 41)).alloc (.cells #[.int .i64 k2,.int .i64 n2] 41)).alloc (.cells #[.int .i64 0,.int .i64 0] 41));obtain ⟨kc,kf⟩:=kr;have g1F:(k1 == 2 && n1 == 0)=false:=q1F;clear q1F;have g2F:(k2 == 2 && n2 == 0)=false:=q2F;clear q2F;have g1T:(k1 == 2 && n1 == 1)=false:=q1T;clear q1T
 go_enter Tryz.func187,Tryz.ntmps187
 go_wp2
 refine aE HB (by kernel_rfl) (by kernel_rfl) ?_
 repeat (go_big_quiet_step ((go_at_call 124;exact cF (aT _ _))))
 refine wpQuiet_nil ?_;rintro _ ⟨p,rfl⟩;have HB:Hid _:=p.h
 go_wp2
 refine aE HB (by kernel_rfl) (by kernel_rfl) ?_
 repeat (go_big_quiet_step ((go_at_call 124;exact cF (aT _ _))))
 refine wpQuiet_nil ?_;rintro _ ⟨p,rfl⟩;have HB:Hid _:=p.h
 go_wp2_with (first | (go_at_call 124;refine (aT _ _).mono ?_;rintro e w1 ⟨rfl,hb⟩;have HB:=nxt HB hb;obtain ⟨hc,hf⟩:=rules HB;clear hb) | (go_at_call 125;refine (d7 _).mono ?_;rintro e w1 ⟨rfl,hb⟩;have HB:=nxt HB hb;obtain ⟨hc,hf⟩:=rules HB;clear hb))
 exact bodyPost_ret (v:=.agg #[.int .i64 0,.int .i64 0]) (by simp [results,Tryz.results187,go_sem,hc,hf]) rfl ⟨rfl,ended HB (bi _ _ _ _) _ _⟩
theorem and_any (k1 n1 k2 n2:Int) (w:World) :
  Calls Tryz.prog 187 #[.agg #[.int .i64 k1,.int .i64 n1],.agg #[.int .i64 k2,.int .i64 n2]] w fun e w'=>e=.returned (.agg #[.int .i64 (ma k1 n1 k2 n2),.int .i64 (m8 k1 n1 k2 n2)])∧Below w.heap.size w w':=by
 cases h1:isF k1 n1
 ·cases h2:isF k2 n2
  ·cases h3:isT k1 n1
   ·have e1:ma k1 n1 k2 n2=0:=by simp [ma,h1,h2,h3]
    have e2:m8 k1 n1 k2 n2=0:=by simp [m8,h1,h2,h3]
    rw [e1,e2];exact and_5 k1 n1 k2 n2 w h1 h2 h3
   ·cases h4:isT k2 n2
    ·have e1:ma k1 n1 k2 n2=0:=by simp [ma,h1,h2,h3,h4]
     have e2:m8 k1 n1 k2 n2=0:=by simp [m8,h1,h2,h3,h4]
     rw [e1,e2];exact and_4 k1 n1 k2 n2 w h1 h2 h3 h4
    ·have e1:ma k1 n1 k2 n2=2:=by simp [ma,h1,h2,h3,h4]
     have e2:m8 k1 n1 k2 n2=1:=by simp [m8,h1,h2,h3,h4]
     rw [e1,e2];exact and_3 k1 n1 k2 n2 w h1 h2 h3 h4
  ·have e1:ma k1 n1 k2 n2=2:=by simp [ma,h2]
   have e2:m8 k1 n1 k2 n2=0:=by simp [m8,h2]
   rw [e1,e2];exact and_2 k1 n1 k2 n2 w h1 h2
 ·have e1:ma k1 n1 k2 n2=2:=by simp [ma,h1]
  have e2:m8 k1 n1 k2 n2=0:=by simp [m8,h1]
  rw [e1,e2];exact and_1 k1 n1 k2 n2 w h1
theorem or_1 (k1 n1 k2 n2:Int) (w:World) (q1T:isT k1 n1=true) :
  Calls Tryz.prog 188 #[.agg #[.int .i64 k1,.int .i64 n1],.agg #[.int .i64 k2,.int .i64 n2]] w fun e w'=>e=.returned (.agg #[.int .i64 2,.int .i64 1])∧Below w.heap.size w w':=by
 have HB:Hid (Below (((w.alloc (.cells #[.int .i64 k1,.int .i64 n1] 41)).alloc (.cells #[.int .i64 k2,.int .i64 n2] 41)).alloc (.cells #[.int .i64 0,.int .i64 0] 41)).heap.size (((w.alloc (.cells #[.int .i64 k1,.int .i64 n1] 41)).alloc (.cells #[.int .i64 k2,.int .i64 n2] 41)).alloc (.cells #[.int .i64 0,.int .i64 0] 41)) (((w.alloc (.cells #[.int .i64 k1,.int .i64 n1] 41)).alloc (.cells #[.int .i64 k2,.int .i64 n2] 41)).alloc (.cells #[.int .i64 0,.int .i64 0] 41))):=Below.refl _ _;have kn:=bJ (((w.alloc (.cells #[.int .i64 k1,.int .i64 n1] 41)).alloc (.cells #[.int .i64 k2,.int .i64 n2] 41)).alloc (.cells #[.int .i64 0,.int .i64 0] 41));have kr:=bB (((w.alloc (.cells #[.int .i64 k1,.int .i64 n1] 41)).alloc (.cells #[.int .i64 k2,.int .i64 n2] 41)).alloc (.cells #[.int .i64 0,.int .i64 0] 41));obtain ⟨kc,kf⟩:=kr;have g1T:(k1 == 2 && n1 == 1)=true:=q1T;clear q1T
 go_enter Tryz.func188,Tryz.ntmps188
 go_wp2
 refine aE HB (by kernel_rfl) (by kernel_rfl) ?_
 repeat (go_big_quiet_step ((go_at_call 124;exact cF (aT _ _))))
 refine wpQuiet_nil ?_;rintro _ ⟨p,rfl⟩;have HB:Hid _:=p.h
 go_wp2_with (first | (go_at_call 124;refine (aT _ _).mono ?_;rintro e w1 ⟨rfl,hb⟩;have HB:=nxt HB hb;obtain ⟨hc,hf⟩:=rules HB;clear hb) | (go_at_call 125;refine (d7 _).mono ?_;rintro e w1 ⟨rfl,hb⟩;have HB:=nxt HB hb;obtain ⟨hc,hf⟩:=rules HB;clear hb))
 exact bodyPost_ret (v:=.agg #[.int .i64 2,.int .i64 1]) (by simp [results,Tryz.results188,go_sem,hc,hf]) rfl ⟨rfl,ended HB (bi _ _ _ _) _ _⟩
theorem or_2 (k1 n1 k2 n2:Int) (w:World) (q1T:isT k1 n1=false) (q2T:isT k2 n2=true) :
  Calls Tryz.prog 188 #[.agg #[.int .i64 k1,.int .i64 n1],.agg #[.int .i64 k2,.int .i64 n2]] w fun e w'=>e=.returned (.agg #[.int .i64 2,.int .i64 1])∧Below w.heap.size w w':=by
 have HB:Hid (Below (((w.alloc (.cells #[.int .i64 k1,.int .i64 n1] 41)).alloc (.cells #[.int .i64 k2,.int .i64 n2] 41)).alloc (.cells #[.int .i64 0,.int .i64 0] 41)).heap.size (((w.alloc (.cells #[.int .i64 k1,.int .i64 n1] 41)).alloc (.cells #[.int .i64 k2,.int .i64 n2] 41)).alloc (.cells #[.int .i64 0,.int .i64 0] 41)) (((w.alloc (.cells #[.int .i64 k1,.int .i64 n1] 41)).alloc (.cells #[.int .i64 k2,.int .i64 n2] 41)).alloc (.cells #[.int .i64 0,.int .i64 0] 41))):=Below.refl _ _;have kn:=bJ (((w.alloc (.cells #[.int .i64 k1,.int .i64 n1] 41)).alloc (.cells #[.int .i64 k2,.int .i64 n2] 41)).alloc (.cells #[.int .i64 0,.int .i64 0] 41));have kr:=bB (((w.alloc (.cells #[.int .i64 k1,.int .i64 n1] 41)).alloc (.cells #[.int .i64 k2,.int .i64 n2] 41)).alloc (.cells #[.int .i64 0,.int .i64 0] 41));obtain ⟨kc,kf⟩:=kr;have g1T:(k1 == 2 && n1 == 1)=false:=q1T;clear q1T;have g2T:(k2 == 2 && n2 == 1)=true:=q2T;clear q2T
 go_enter Tryz.func188,Tryz.ntmps188
 go_wp2
 refine aE HB (by kernel_rfl) (by kernel_rfl) ?_
 repeat (go_big_quiet_step ((go_at_call 124;exact cF (aT _ _))))
 refine wpQuiet_nil ?_;rintro _ ⟨p,rfl⟩;have HB:Hid _:=p.h
 go_wp2_with (first | (go_at_call 124;refine (aT _ _).mono ?_;rintro e w1 ⟨rfl,hb⟩;have HB:=nxt HB hb;obtain ⟨hc,hf⟩:=rules HB;clear hb) | (go_at_call 125;refine (d7 _).mono ?_;rintro e w1 ⟨rfl,hb⟩;have HB:=nxt HB hb;obtain ⟨hc,hf⟩:=rules HB;clear hb))
 exact bodyPost_ret (v:=.agg #[.int .i64 2,.int .i64 1]) (by simp [results,Tryz.results188,go_sem,hc,hf]) rfl ⟨rfl,ended HB (bi _ _ _ _) _ _⟩
theorem or_3 (k1 n1 k2 n2:Int) (w:World) (q1T:isT k1 n1=false) (q2T:isT k2 n2=false) (q1F:isF k1 n1=true) (q2F:isF k2 n2=true) :
  Calls Tryz.prog 188 #[.agg #[.int .i64 k1,.int .i64 n1],.agg #[.int .i64 k2,.int .i64 n2]] w fun e w'=>e=.returned (.agg #[.int .i64 2,.int .i64 0])∧Below w.heap.size w w':=by
 have HB:Hid (Below (((w.alloc (.cells #[.int .i64 k1,.int .i64 n1] 41)).alloc (.cells #[.int .i64 k2,.int .i64 n2] 41)).alloc (.cells #[.int .i64 0,.int .i64 0] 41)).heap.size (((w.alloc (.cells #[.int .i64 k1,.int .i64 n1] 41)).alloc (.cells #[.int .i64 k2,.int .i64 n2] 41)).alloc (.cells #[.int .i64 0,.int .i64 0] 41)) (((w.alloc (.cells #[.int .i64 k1,.int .i64 n1] 41)).alloc (.cells #[.int .i64 k2,.int .i64 n2] 41)).alloc (.cells #[.int .i64 0,.int .i64 0] 41))):=Below.refl _ _;have kn:=bJ (((w.alloc (.cells #[.int .i64 k1,.int .i64 n1] 41)).alloc (.cells #[.int .i64 k2,.int .i64 n2] 41)).alloc (.cells #[.int .i64 0,.int .i64 0] 41));have kr:=bB (((w.alloc (.cells #[.int .i64 k1,.int .i64 n1] 41)).alloc (.cells #[.int .i64 k2,.int .i64 n2] 41)).alloc (.cells #[.int .i64 0,.int .i64 0] 41));obtain ⟨kc,kf⟩:=kr;have g1T:(k1 == 2 && n1 == 1)=false:=q1T;clear q1T;have g2T:(k2 == 2 && n2 == 1)=false:=q2T;clear q2T;have g1F:(k1 == 2 && n1 == 0)=true:=q1F;clear q1F;have g2F:(k2 == 2 && n2 == 0)=true:=q2F;clear q2F
 go_enter Tryz.func188,Tryz.ntmps188
 go_wp2
 refine aE HB (by kernel_rfl) (by kernel_rfl) ?_
 repeat (go_big_quiet_step ((go_at_call 124;exact cF (aT _ _))))
 refine wpQuiet_nil ?_;rintro _ ⟨p,rfl⟩;have HB:Hid _:=p.h
 go_wp2
 refine aE HB (by kernel_rfl) (by kernel_rfl) ?_
 repeat (go_big_quiet_step ((go_at_call 124;exact cF (aT _ _))))
 refine wpQuiet_nil ?_;rintro _ ⟨p,rfl⟩;have HB:Hid _:=p.h
 go_wp2_with (first | (go_at_call 124;refine (aT _ _).mono ?_;rintro e w1 ⟨rfl,hb⟩;have HB:=nxt HB hb;obtain ⟨hc,hf⟩:=rules HB;clear hb) | (go_at_call 125;refine (d7 _).mono ?_;rintro e w1 ⟨rfl,hb⟩;have HB:=nxt HB hb;obtain ⟨hc,hf⟩:=rules HB;clear hb))
 exact bodyPost_ret (v:=.agg #[.int .i64 2,.int .i64 0]) (by simp [results,Tryz.results188,go_sem,hc,hf]) rfl ⟨rfl,ended HB (bi _ _ _ _) _ _⟩
theorem or_4 (k1 n1 k2 n2:Int) (w:World) (q1T:isT k1 n1=false) (q2T:isT k2 n2=false) (q1F:isF k1 n1=true) (q2F:isF k2 n2=false) :
  Calls Tryz.prog 188 #[.agg #[.int .i64 k1,.int .i64 n1],.agg #[.int .i64 k2,.int .i64 n2]] w fun e w'=>e=.returned (.agg #[.int .i64 0,.int .i64 0])∧Below w.heap.size w w':=by
 have HB:Hid (Below (((w.alloc (.cells #[.int .i64 k1,.int .i64 n1] 41)).alloc (.cells #[.int .i64 k2,.int .i64 n2] 41)).alloc (.cells #[.int .i64 0,.int .i64 0] 41)).heap.size (((w.alloc (.cells #[.int .i64 k1,.int .i64 n1] 41)).alloc (.cells #[.int .i64 k2,.int .i64 n2] 41)).alloc (.cells #[.int .i64 0,.int .i64 0] 41)) (((w.alloc (.cells #[.int .i64 k1,.int .i64 n1] 41)).alloc (.cells #[.int .i64 k2,.int .i64 n2] 41)).alloc (.cells #[.int .i64 0,.int .i64 0] 41))):=Below.refl _ _;have kn:=bJ (((w.alloc (.cells #[.int .i64 k1,.int .i64 n1] 41)).alloc (.cells #[.int .i64 k2,.int .i64 n2] 41)).alloc (.cells #[.int .i64 0,.int .i64 0] 41));have kr:=bB (((w.alloc (.cells #[.int .i64 k1,.int .i64 n1] 41)).alloc (.cells #[.int .i64 k2,.int .i64 n2] 41)).alloc (.cells #[.int .i64 0,.int .i64 0] 41));obtain ⟨kc,kf⟩:=kr;have g1T:(k1 == 2 && n1 == 1)=false:=q1T;clear q1T;have g2T:(k2 == 2 && n2 == 1)=false:=q2T;clear q2T;have g1F:(k1 == 2 && n1 == 0)=true:=q1F;clear q1F;have g2F:(k2 == 2 && n2 == 0)=false:=q2F;clear q2F
 go_enter Tryz.func188,Tryz.ntmps188
 go_wp2
 refine aE HB (by kernel_rfl) (by kernel_rfl) ?_
 repeat (go_big_quiet_step ((go_at_call 124;exact cF (aT _ _))))
 refine wpQuiet_nil ?_;rintro _ ⟨p,rfl⟩;have HB:Hid _:=p.h
 go_wp2
 refine aE HB (by kernel_rfl) (by kernel_rfl) ?_
 repeat (go_big_quiet_step ((go_at_call 124;exact cF (aT _ _))))
 refine wpQuiet_nil ?_;rintro _ ⟨p,rfl⟩;have HB:Hid _:=p.h
 go_wp2_with (first | (go_at_call 124;refine (aT _ _).mono ?_;rintro e w1 ⟨rfl,hb⟩;have HB:=nxt HB hb;obtain ⟨hc,hf⟩:=rules HB;clear hb) | (go_at_call 125;refine (d7 _).mono ?_;rintro e w1 ⟨rfl,hb⟩;have HB:=nxt HB hb;obtain ⟨hc,hf⟩:=rules HB;clear hb))
 exact bodyPost_ret (v:=.agg #[.int .i64 0,.int .i64 0]) (by simp [results,Tryz.results188,go_sem,hc,hf]) rfl ⟨rfl,ended HB (bi _ _ _ _) _ _⟩
theorem or_5 (k1 n1 k2 n2:Int) (w:World) (q1T:isT k1 n1=false) (q2T:isT k2 n2=false) (q1F:isF k1 n1=false) :
  Calls Tryz.prog 188 #[.agg #[.int .i64 k1,.int .i64 n1],.agg #[.int .i64 k2,.int .i64 n2]] w fun e w'=>e=.returned (.agg #[.int .i64 0,.int .i64 0])∧Below w.heap.size w w':=by
 have HB:Hid (Below (((w.alloc (.cells #[.int .i64 k1,.int .i64 n1] 41)).alloc (.cells #[.int .i64 k2,.int .i64 n2] 41)).alloc (.cells #[.int .i64 0,.int .i64 0] 41)).heap.size (((w.alloc (.cells #[.int .i64 k1,.int .i64 n1] 41)).alloc (.cells #[.int .i64 k2,.int .i64 n2] 41)).alloc (.cells #[.int .i64 0,.int .i64 0] 41)) (((w.alloc (.cells #[.int .i64 k1,.int .i64 n1] 41)).alloc (.cells #[.int .i64 k2,.int .i64 n2] 41)).alloc (.cells #[.int .i64 0,.int .i64 0] 41))):=Below.refl _ _;have kn:=bJ (((w.alloc (.cells #[.int .i64 k1,.int .i64 n1] 41)).alloc (.cells #[.int .i64 k2,.int .i64 n2] 41)).alloc (.cells #[.int .i64 0,.int .i64 0] 41));have kr:=bB (((w.alloc (.cells #[.int .i64 k1,.int .i64 n1] 41)).alloc (.cells #[.int .i64 k2,.int .i64 n2] 41)).alloc (.cells #[.int .i64 0,.int .i64 0] 41));obtain ⟨kc,kf⟩:=kr;have g1T:(k1 == 2 && n1 == 1)=false:=q1T;clear q1T;have g2T:(k2 == 2 && n2 == 1)=false:=q2T;clear q2T;have g1F:(k1 == 2 && n1 == 0)=false:=q1F;clear q1F
 go_enter Tryz.func188,Tryz.ntmps188
 go_wp2
 refine aE HB (by kernel_rfl) (by kernel_rfl) ?_
 repeat (go_big_quiet_step ((go_at_call 124;exact cF (aT _ _))))
 refine wpQuiet_nil ?_;rintro _ ⟨p,rfl⟩;have HB:Hid _:=p.h
 go_wp2
 refine aE HB (by kernel_rfl) (by kernel_rfl) ?_
 repeat (go_big_quiet_step ((go_at_call 124;exact cF (aT _ _))))
 refine wpQuiet_nil ?_;rintro _ ⟨p,rfl⟩;have HB:Hid _:=p.h
 go_wp2_with (first | (go_at_call 124;refine (aT _ _).mono ?_;rintro e w1 ⟨rfl,hb⟩;have HB:=nxt HB hb;obtain ⟨hc,hf⟩:=rules HB;clear hb) | (go_at_call 125;refine (d7 _).mono ?_;rintro e w1 ⟨rfl,hb⟩;have HB:=nxt HB hb;obtain ⟨hc,hf⟩:=rules HB;clear hb))
 exact bodyPost_ret (v:=.agg #[.int .i64 0,.int .i64 0]) (by simp [results,Tryz.results188,go_sem,hc,hf]) rfl ⟨rfl,ended HB (bi _ _ _ _) _ _⟩
theorem or_any (k1 n1 k2 n2:Int) (w:World) :
  Calls Tryz.prog 188 #[.agg #[.int .i64 k1,.int .i64 n1],.agg #[.int .i64 k2,.int .i64 n2]] w fun e w'=>e=.returned (.agg #[.int .i64 (orK k1 n1 k2 n2),.int .i64 (orN k1 n1 k2 n2)])∧Below w.heap.size w w':=by
 cases h1:isT k1 n1
 ·cases h2:isT k2 n2
  ·cases h3:isF k1 n1
   ·have e1:orK k1 n1 k2 n2=0:=by simp [orK,h1,h2,h3]
    have e2:orN k1 n1 k2 n2=0:=by simp [orN,h1,h2,h3]
    rw [e1,e2];exact or_5 k1 n1 k2 n2 w h1 h2 h3
   ·cases h4:isF k2 n2
    ·have e1:orK k1 n1 k2 n2=0:=by simp [orK,h1,h2,h3,h4]
     have e2:orN k1 n1 k2 n2=0:=by simp [orN,h1,h2,h3,h4]
     rw [e1,e2];exact or_4 k1 n1 k2 n2 w h1 h2 h3 h4
    ·have e1:orK k1 n1 k2 n2=2:=by simp [orK,h1,h2,h3,h4]
     have e2:orN k1 n1 k2 n2=0:=by simp [orN,h1,h2,h3,h4]
     rw [e1,e2];exact or_3 k1 n1 k2 n2 w h1 h2 h3 h4
  ·have e1:orK k1 n1 k2 n2=2:=by simp [orK,h2]
   have e2:orN k1 n1 k2 n2=1:=by simp [orN,h2]
   rw [e1,e2];exact or_2 k1 n1 k2 n2 w h1 h2
 ·have e1:orK k1 n1 k2 n2=2:=by simp [orK,h1]
  have e2:orN k1 n1 k2 n2=1:=by simp [orN,h1]
  rw [e1,e2];exact or_1 k1 n1 k2 n2 w h1
end Go.Proofs.YtcgjflamgnjhcaaGreatDoor

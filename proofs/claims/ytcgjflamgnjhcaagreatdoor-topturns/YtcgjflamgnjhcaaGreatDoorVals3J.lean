/- Own texts in one. Conditions: as named in each. -/
import Derived.Test.YtcgjflamgnjhcaaGreatDoorKinJ
set_option linter.unusedVariables false
set_option linter.unusedSimpArgs false
set_option maxRecDepth 100000
set_option maxHeartbeats 8000000
namespace Go.Proofs.YtcgjflamgnjhcaaGreatDoor
open Go.ChangeShapes Go.WideShapes Go.ChangeAt Go.RowKit
def isF (k n:Int):Bool:=k == 2 && n == 0
def isT (k n:Int):Bool:=k == 2 && n == 1
def mb (k1 n1 k2 n2:Int):Int:=if isF k1 n1 || isF k2 n2 then 2 else if isT k1 n1 && isT k2 n2 then 2 else 0
def m7 (k1 n1 k2 n2:Int):Int:=if isF k1 n1 || isF k2 n2 then 0 else if isT k1 n1 && isT k2 n2 then 1 else 0
def orK (k1 n1 k2 n2:Int):Int:=if isT k1 n1 || isT k2 n2 then 2 else if isF k1 n1 && isF k2 n2 then 2 else 0
def orN (k1 n1 k2 n2:Int):Int:=if isT k1 n1 || isT k2 n2 then 1 else 0
attribute [local go_sem ↓] cI cD
theorem bh (w:World) (a b c:Obj):Below w.heap.size w (((w.alloc a).alloc b).alloc c):=((((Below.refl _ _).alloc (Nat.le_refl _) _).alloc (by simp) _).alloc (by simp;omega) _)
theorem aS (b:Bool) (w:World) :
  Calls Tryz.prog 124 #[.bool b] w fun e w'=>e=.returned (.agg #[.int .i64 2,.int .i64 (if b then 1 else 0)])∧Below w.heap.size w w' :=
 (cR b w).mono fun e w' ⟨h1,h2⟩=>⟨h1,by rw [h2];exact (Below.refl _ _).alloc (Nat.le_refl _) _⟩
theorem and_1 (k1 n1 k2 n2:Int) (w:World) (q1F:isF k1 n1=true) :
  Calls Tryz.prog 187 #[.agg #[.int .i64 k1,.int .i64 n1],.agg #[.int .i64 k2,.int .i64 n2]] w fun e w'=>e=.returned (.agg #[.int .i64 2,.int .i64 0])∧Below w.heap.size w w':=by
 have HB:Hid (Below (((w.alloc (.cells #[.int .i64 k1,.int .i64 n1] 41)).alloc (.cells #[.int .i64 k2,.int .i64 n2] 41)).alloc (.cells #[.int .i64 0,.int .i64 0] 41)).heap.size (((w.alloc (.cells #[.int .i64 k1,.int .i64 n1] 41)).alloc (.cells #[.int .i64 k2,.int .i64 n2] 41)).alloc (.cells #[.int .i64 0,.int .i64 0] 41)) (((w.alloc (.cells #[.int .i64 k1,.int .i64 n1] 41)).alloc (.cells #[.int .i64 k2,.int .i64 n2] 41)).alloc (.cells #[.int .i64 0,.int .i64 0] 41))):=Below.refl _ _;have kn:=bG (((w.alloc (.cells #[.int .i64 k1,.int .i64 n1] 41)).alloc (.cells #[.int .i64 k2,.int .i64 n2] 41)).alloc (.cells #[.int .i64 0,.int .i64 0] 41));have kr:=bn (((w.alloc (.cells #[.int .i64 k1,.int .i64 n1] 41)).alloc (.cells #[.int .i64 k2,.int .i64 n2] 41)).alloc (.cells #[.int .i64 0,.int .i64 0] 41));obtain ⟨kc,kf⟩:=kr;have g1F:(k1 == 2 && n1 == 0)=true:=q1F;clear q1F
 go_enter Tryz.func187,Tryz.ntmps187
 go_wp2
 refine aD HB (by kernel_rfl) (by kernel_rfl) ?_
 repeat (go_big_quiet_step ((go_at_call 124;exact co (aS _ _))))
 refine wpQuiet_nil ?_;rintro _ ⟨p,rfl⟩;have HB:Hid _:=p.h
 go_wp2_with (first | (go_at_call 124;refine (aS _ _).mono ?_;rintro e w1 ⟨rfl,hb⟩;have HB:=nxt HB hb;obtain ⟨hc,hf⟩:=rules HB;clear hb) | (go_at_call 125;refine (cX _).mono ?_;rintro e w1 ⟨rfl,hb⟩;have HB:=nxt HB hb;obtain ⟨hc,hf⟩:=rules HB;clear hb))
 exact bodyPost_ret (v:=.agg #[.int .i64 2,.int .i64 0]) (by simp [results,Tryz.results187,go_sem,hc,hf]) rfl ⟨rfl,ended HB (bh _ _ _ _) _ _⟩
theorem and_2 (k1 n1 k2 n2:Int) (w:World) (q1F:isF k1 n1=false) (q2F:isF k2 n2=true) :
  Calls Tryz.prog 187 #[.agg #[.int .i64 k1,.int .i64 n1],.agg #[.int .i64 k2,.int .i64 n2]] w fun e w'=>e=.returned (.agg #[.int .i64 2,.int .i64 0])∧Below w.heap.size w w':=by
 have HB:Hid (Below (((w.alloc (.cells #[.int .i64 k1,.int .i64 n1] 41)).alloc (.cells #[.int .i64 k2,.int .i64 n2] 41)).alloc (.cells #[.int .i64 0,.int .i64 0] 41)).heap.size (((w.alloc (.cells #[.int .i64 k1,.int .i64 n1] 41)).alloc (.cells #[.int .i64 k2,.int .i64 n2] 41)).alloc (.cells #[.int .i64 0,.int .i64 0] 41)) (((w.alloc (.cells #[.int .i64 k1,.int .i64 n1] 41)).alloc (.cells #[.int .i64 k2,.int .i64 n2] 41)).alloc (.cells #[.int .i64 0,.int .i64 0] 41))):=Below.refl _ _;have kn:=bG (((w.alloc (.cells #[.int .i64 k1,.int .i64 n1] 41)).alloc (.cells #[.int .i64 k2,.int .i64 n2] 41)).alloc (.cells #[.int .i64 0,.int .i64 0] 41));have kr:=bn (((w.alloc (.cells #[.int .i64 k1,.int .i64 n1] 41)).alloc (.cells #[.int .i64 k2,.int .i64 n2] 41)).alloc (.cells #[.int .i64 0,.int .i64 0] 41));obtain ⟨kc,kf⟩:=kr;have g1F:(k1 == 2 && n1 == 0)=false:=q1F;clear q1F;have g2F:(k2 == 2 && n2 == 0)=true:=q2F;clear q2F
 go_enter Tryz.func187,Tryz.ntmps187
 go_wp2
 refine aD HB (by kernel_rfl) (by kernel_rfl) ?_
 repeat (go_big_quiet_step ((go_at_call 124;exact co (aS _ _))))
 refine wpQuiet_nil ?_;rintro _ ⟨p,rfl⟩;have HB:Hid _:=p.h
 go_wp2_with (first | (go_at_call 124;refine (aS _ _).mono ?_;rintro e w1 ⟨rfl,hb⟩;have HB:=nxt HB hb;obtain ⟨hc,hf⟩:=rules HB;clear hb) | (go_at_call 125;refine (cX _).mono ?_;rintro e w1 ⟨rfl,hb⟩;have HB:=nxt HB hb;obtain ⟨hc,hf⟩:=rules HB;clear hb))
 exact bodyPost_ret (v:=.agg #[.int .i64 2,.int .i64 0]) (by simp [results,Tryz.results187,go_sem,hc,hf]) rfl ⟨rfl,ended HB (bh _ _ _ _) _ _⟩
theorem and_3 (k1 n1 k2 n2:Int) (w:World) (q1F:isF k1 n1=false) (q2F:isF k2 n2=false) (q1T:isT k1 n1=true) (q2T:isT k2 n2=true) :
  Calls Tryz.prog 187 #[.agg #[.int .i64 k1,.int .i64 n1],.agg #[.int .i64 k2,.int .i64 n2]] w fun e w'=>e=.returned (.agg #[.int .i64 2,.int .i64 1])∧Below w.heap.size w w':=by
 have HB:Hid (Below (((w.alloc (.cells #[.int .i64 k1,.int .i64 n1] 41)).alloc (.cells #[.int .i64 k2,.int .i64 n2] 41)).alloc (.cells #[.int .i64 0,.int .i64 0] 41)).heap.size (((w.alloc (.cells #[.int .i64 k1,.int .i64 n1] 41)).alloc (.cells #[.int .i64 k2,.int .i64 n2] 41)).alloc (.cells #[.int .i64 0,.int .i64 0] 41)) (((w.alloc (.cells #[.int .i64 k1,.int .i64 n1] 41)).alloc (.cells #[.int .i64 k2,.int .i64 n2] 41)).alloc (.cells #[.int .i64 0,.int .i64 0] 41))):=Below.refl _ _;have kn:=bG (((w.alloc (.cells #[.int .i64 k1,.int .i64 n1] 41)).alloc (.cells #[.int .i64 k2,.int .i64 n2] 41)).alloc (.cells #[.int .i64 0,.int .i64 0] 41));have kr:=bn (((w.alloc (.cells #[.int .i64 k1,.int .i64 n1] 41)).alloc (.cells #[.int .i64 k2,.int .i64 n2] 41)).alloc (.cells #[.int .i64 0,.int .i64 0] 41));obtain ⟨kc,kf⟩:=kr;have g1F:(k1 == 2 && n1 == 0)=false:=q1F;clear q1F;have g2F:(k2 == 2 && n2 == 0)=false:=q2F;clear q2F;have g1T:(k1 == 2 && n1 == 1)=true:=q1T;clear q1T;have g2T:(k2 == 2 && n2 == 1)=true:=q2T;clear q2T
 go_enter Tryz.func187,Tryz.ntmps187
 go_wp2
 refine aD HB (by kernel_rfl) (by kernel_rfl) ?_
 repeat (go_big_quiet_step ((go_at_call 124;exact co (aS _ _))))
 refine wpQuiet_nil ?_;rintro _ ⟨p,rfl⟩;have HB:Hid _:=p.h
 go_wp2
 refine aD HB (by kernel_rfl) (by kernel_rfl) ?_
 repeat (go_big_quiet_step ((go_at_call 124;exact co (aS _ _))))
 refine wpQuiet_nil ?_;rintro _ ⟨p,rfl⟩;have HB:Hid _:=p.h
 go_wp2_with (first | (go_at_call 124;refine (aS _ _).mono ?_;rintro e w1 ⟨rfl,hb⟩;have HB:=nxt HB hb;obtain ⟨hc,hf⟩:=rules HB;clear hb) | (go_at_call 125;refine (cX _).mono ?_;rintro e w1 ⟨rfl,hb⟩;have HB:=nxt HB hb;obtain ⟨hc,hf⟩:=rules HB;clear hb))
 exact bodyPost_ret (v:=.agg #[.int .i64 2,.int .i64 1]) (by simp [results,Tryz.results187,go_sem,hc,hf]) rfl ⟨rfl,ended HB (bh _ _ _ _) _ _⟩
theorem and_4 (k1 n1 k2 n2:Int) (w:World) (q1F:isF k1 n1=false) (q2F:isF k2 n2=false) (q1T:isT k1 n1=true) (q2T:isT k2 n2=false) :
  Calls Tryz.prog 187 #[.agg #[.int .i64 k1,.int .i64 n1],.agg #[.int .i64 k2,.int .i64 n2]] w fun e w'=>e=.returned (.agg #[.int .i64 0,.int .i64 0])∧Below w.heap.size w w':=by
 have HB:Hid (Below (((w.alloc (.cells #[.int .i64 k1,.int .i64 n1] 41)).alloc (.cells #[.int .i64 k2,.int .i64 n2] 41)).alloc (.cells #[.int .i64 0,.int .i64 0] 41)).heap.size (((w.alloc (.cells #[.int .i64 k1,.int .i64 n1] 41)).alloc (.cells #[.int .i64 k2,.int .i64 n2] 41)).alloc (.cells #[.int .i64 0,.int .i64 0] 41)) (((w.alloc (.cells #[.int .i64 k1,.int .i64 n1] 41)).alloc (.cells #[.int .i64 k2,.int .i64 n2] 41)).alloc (.cells #[.int .i64 0,.int .i64 0] 41))):=Below.refl _ _;have kn:=bG (((w.alloc (.cells #[.int .i64 k1,.int .i64 n1] 41)).alloc (.cells #[.int .i64 k2,.int .i64 n2] 41)).alloc (.cells #[.int .i64 0,.int .i64 0] 41));have kr:=bn (((w.alloc (.cells #[.int .i64 k1,.int .i64 n1] 41)).alloc (.cells #[.int .i64 k2,.int .i64 n2] 41)).alloc (.cells #[.int .i64 0,.int .i64 0] 41));obtain ⟨kc,kf⟩:=kr;have g1F:(k1 == 2 && n1 == 0)=false:=q1F;clear q1F;have g2F:(k2 == 2 && n2 == 0)=false:=q2F;clear q2F;have g1T:(k1 == 2 && n1 == 1)=true:=q1T;clear q1T;have g2T:(k2 == 2 && n2 == 1)=false:=q2T;clear q2T
 go_enter Tryz.func187,Tryz.ntmps187
 go_wp2
 refine aD HB (by kernel_rfl) (by kernel_rfl) ?_
 repeat (go_big_quiet_step ((go_at_call 124;exact co (aS _ _))))
 refine wpQuiet_nil ?_;rintro _ ⟨p,rfl⟩;have HB:Hid _:=p.h
 go_wp2
 refine aD HB (by kernel_rfl) (by kernel_rfl) ?_
 repeat (go_big_quiet_step ((go_at_call 124;exact co (aS _ _))))
 refine wpQuiet_nil ?_;rintro _ ⟨p,rfl⟩;have HB:Hid _:=p.h
 go_wp2_with (first | (go_at_call 124;refine (aS _ _).mono ?_;rintro e w1 ⟨rfl,hb⟩;have HB:=nxt HB hb;obtain ⟨hc,hf⟩:=rules HB;clear hb) | (go_at_call 125;refine (cX _).mono ?_;rintro e w1 ⟨rfl,hb⟩;have HB:=nxt HB hb;obtain ⟨hc,hf⟩:=rules HB;clear hb))
 exact bodyPost_ret (v:=.agg #[.int .i64 0,.int .i64 0]) (by simp [results,Tryz.results187,go_sem,hc,hf]) rfl ⟨rfl,ended HB (bh _ _ _ _) _ _⟩
theorem and_5 (k1 n1 k2 n2:Int) (w:World) (q1F:isF k1 n1=false) (q2F:isF k2 n2=false) (q1T:isT k1 n1=false) :
  Calls Tryz.prog 187 #[.agg #[.int .i64 k1,.int .i64 n1],.agg #[.int .i64 k2,.int .i64 n2]] w fun e w'=>e=.returned (.agg #[.int .i64 0,.int .i64 0])∧Below w.heap.size w w':=by
 have HB:Hid (Below (((w.alloc (.cells #[.int .i64 k1,.int .i64 n1] 41)).alloc (.cells #[.int .i64 k2,.int .i64 n2] 41)).alloc (.cells #[.int .i64 0,.int .i64 0] 41)).heap.size (((w.alloc (.cells #[.int .i64 k1,.int .i64 n1] 41)).alloc (.cells #[.int .i64 k2,.int .i64 n2] 41)).alloc (.cells #[.int .i64 0,.int .i64 0] 41)) (((w.alloc (.cells #[.int .i64 k1,.int .i64 n1] 41)).alloc (.cells #[.int .i64 k2,.int .i64 n2] 41)).alloc (.cells #[.int .i64 0,.int .i64 0] 41))):=Below.refl _ _;have kn:=bG (((w.alloc (.cells #[.int .i64 k1,.int .i64 n1] 41)).alloc (.cells #[.int .i64 k2,.int .i64 n2] 41)).alloc (.cells #[.int .i64 0,.int .i64 0] 41));have kr:=bn (((w.alloc (.cells #[.int .i64 k1,.int .i64 n1] 41)).alloc (.cells #[.int .i64 k2,.int .i64 n2] 41)).alloc (.cells #[.int .i64 0,.int .i64 0] 41));obtain ⟨kc,kf⟩:=kr;have g1F:(k1 == 2 && n1 == 0)=false:=q1F;clear q1F;have g2F:(k2 == 2 && n2 == 0)=false:=q2F;clear q2F;have g1T:(k1 == 2 && n1 == 1)=false:=q1T;clear q1T
 go_enter Tryz.func187,Tryz.ntmps187
 go_wp2
 refine aD HB (by kernel_rfl) (by kernel_rfl) ?_
 repeat (go_big_quiet_step ((go_at_call 124;exact co (aS _ _))))
 refine wpQuiet_nil ?_;rintro _ ⟨p,rfl⟩;have HB:Hid _:=p.h
 go_wp2
 refine aD HB (by kernel_rfl) (by kernel_rfl) ?_
 repeat (go_big_quiet_step ((go_at_call 124;exact co (aS _ _))))
 refine wpQuiet_nil ?_;rintro _ ⟨p,rfl⟩;have HB:Hid _:=p.h
 go_wp2_with (first | (go_at_call 124;refine (aS _ _).mono ?_;rintro e w1 ⟨rfl,hb⟩;have HB:=nxt HB hb;obtain ⟨hc,hf⟩:=rules HB;clear hb) | (go_at_call 125;refine (cX _).mono ?_;rintro e w1 ⟨rfl,hb⟩;have HB:=nxt HB hb;obtain ⟨hc,hf⟩:=rules HB;clear hb))
 exact bodyPost_ret (v:=.agg #[.int .i64 0,.int .i64 0]) (by simp [results,Tryz.results187,go_sem,hc,hf]) rfl ⟨rfl,ended HB (bh _ _ _ _) _ _⟩
theorem and_any (k1 n1 k2 n2:Int) (w:World) :
  Calls Tryz.prog 187 #[.agg #[.int .i64 k1,.int .i64 n1],.agg #[.int .i64 k2,.int .i64 n2]] w fun e w'=>e=.returned (.agg #[.int .i64 (mb k1 n1 k2 n2),.int .i64 (m7 k1 n1 k2 n2)])∧Below w.heap.size w w':=by
 cases h1:isF k1 n1
 ·cases h2:isF k2 n2
  ·cases h3:isT k1 n1
   ·have e1:mb k1 n1 k2 n2=0:=by simp [mb,h1,h2,h3]
    have e2:m7 k1 n1 k2 n2=0:=by simp [m7,h1,h2,h3]
    rw [e1,e2];exact and_5 k1 n1 k2 n2 w h1 h2 h3
   ·cases h4:isT k2 n2
    ·have e1:mb k1 n1 k2 n2=0:=by simp [mb,h1,h2,h3,h4]
     have e2:m7 k1 n1 k2 n2=0:=by simp [m7,h1,h2,h3,h4]
     rw [e1,e2];exact and_4 k1 n1 k2 n2 w h1 h2 h3 h4
    ·have e1:mb k1 n1 k2 n2=2:=by simp [mb,h1,h2,h3,h4]
     have e2:m7 k1 n1 k2 n2=1:=by simp [m7,h1,h2,h3,h4]
     rw [e1,e2];exact and_3 k1 n1 k2 n2 w h1 h2 h3 h4
  ·have e1:mb k1 n1 k2 n2=2:=by simp [mb,h2]
   have e2:m7 k1 n1 k2 n2=0:=by simp [m7,h2]
   rw [e1,e2];exact and_2 k1 n1 k2 n2 w h1 h2
 ·have e1:mb k1 n1 k2 n2=2:=by simp [mb,h1]
  have e2:m7 k1 n1 k2 n2=0:=by simp [m7,h1]
  rw [e1,e2];exact and_1 k1 n1 k2 n2 w h1
theorem or_1 (k1 n1 k2 n2:Int) (w:World) (q1T:isT k1 n1=true) :
  Calls Tryz.prog 188 #[.agg #[.int .i64 k1,.int .i64 n1],.agg #[.int .i64 k2,.int .i64 n2]] w fun e w'=>e=.returned (.agg #[.int .i64 2,.int .i64 1])∧Below w.heap.size w w':=by
 have HB:Hid (Below (((w.alloc (.cells #[.int .i64 k1,.int .i64 n1] 41)).alloc (.cells #[.int .i64 k2,.int .i64 n2] 41)).alloc (.cells #[.int .i64 0,.int .i64 0] 41)).heap.size (((w.alloc (.cells #[.int .i64 k1,.int .i64 n1] 41)).alloc (.cells #[.int .i64 k2,.int .i64 n2] 41)).alloc (.cells #[.int .i64 0,.int .i64 0] 41)) (((w.alloc (.cells #[.int .i64 k1,.int .i64 n1] 41)).alloc (.cells #[.int .i64 k2,.int .i64 n2] 41)).alloc (.cells #[.int .i64 0,.int .i64 0] 41))):=Below.refl _ _;have kn:=bG (((w.alloc (.cells #[.int .i64 k1,.int .i64 n1] 41)).alloc (.cells #[.int .i64 k2,.int .i64 n2] 41)).alloc (.cells #[.int .i64 0,.int .i64 0] 41));have kr:=bn (((w.alloc (.cells #[.int .i64 k1,.int .i64 n1] 41)).alloc (.cells #[.int .i64 k2,.int .i64 n2] 41)).alloc (.cells #[.int .i64 0,.int .i64 0] 41));obtain ⟨kc,kf⟩:=kr;have g1T:(k1 == 2 && n1 == 1)=true:=q1T;clear q1T
 go_enter Tryz.func188,Tryz.ntmps188
 go_wp2
 refine aD HB (by kernel_rfl) (by kernel_rfl) ?_
 repeat (go_big_quiet_step ((go_at_call 124;exact co (aS _ _))))
 refine wpQuiet_nil ?_;rintro _ ⟨p,rfl⟩;have HB:Hid _:=p.h
 go_wp2_with (first | (go_at_call 124;refine (aS _ _).mono ?_;rintro e w1 ⟨rfl,hb⟩;have HB:=nxt HB hb;obtain ⟨hc,hf⟩:=rules HB;clear hb) | (go_at_call 125;refine (cX _).mono ?_;rintro e w1 ⟨rfl,hb⟩;have HB:=nxt HB hb;obtain ⟨hc,hf⟩:=rules HB;clear hb))
 exact bodyPost_ret (v:=.agg #[.int .i64 2,.int .i64 1]) (by simp [results,Tryz.results188,go_sem,hc,hf]) rfl ⟨rfl,ended HB (bh _ _ _ _) _ _⟩
theorem or_2 (k1 n1 k2 n2:Int) (w:World) (q1T:isT k1 n1=false) (q2T:isT k2 n2=true) :
  Calls Tryz.prog 188 #[.agg #[.int .i64 k1,.int .i64 n1],.agg #[.int .i64 k2,.int .i64 n2]] w fun e w'=>e=.returned (.agg #[.int .i64 2,.int .i64 1])∧Below w.heap.size w w':=by
 have HB:Hid (Below (((w.alloc (.cells #[.int .i64 k1,.int .i64 n1] 41)).alloc (.cells #[.int .i64 k2,.int .i64 n2] 41)).alloc (.cells #[.int .i64 0,.int .i64 0] 41)).heap.size (((w.alloc (.cells #[.int .i64 k1,.int .i64 n1] 41)).alloc (.cells #[.int .i64 k2,.int .i64 n2] 41)).alloc (.cells #[.int .i64 0,.int .i64 0] 41)) (((w.alloc (.cells #[.int .i64 k1,.int .i64 n1] 41)).alloc (.cells #[.int .i64 k2,.int .i64 n2] 41)).alloc (.cells #[.int .i64 0,.int .i64 0] 41))):=Below.refl _ _;have kn:=bG (((w.alloc (.cells #[.int .i64 k1,.int .i64 n1] 41)).alloc (.cells #[.int .i64 k2,.int .i64 n2] 41)).alloc (.cells #[.int .i64 0,.int .i64 0] 41));have kr:=bn (((w.alloc (.cells #[.int .i64 k1,.int .i64 n1] 41)).alloc (.cells #[.int .i64 k2,.int .i64 n2] 41)).alloc (.cells #[.int .i64 0,.int .i64 0] 41));obtain ⟨kc,kf⟩:=kr;have g1T:(k1 == 2 && n1 == 1)=false:=q1T;clear q1T;have g2T:(k2 == 2 && n2 == 1)=true:=q2T;clear q2T
 go_enter Tryz.func188,Tryz.ntmps188
 go_wp2
 refine aD HB (by kernel_rfl) (by kernel_rfl) ?_
 repeat (go_big_quiet_step ((go_at_call 124;exact co (aS _ _))))
 refine wpQuiet_nil ?_;rintro _ ⟨p,rfl⟩;have HB:Hid _:=p.h
 go_wp2_with (first | (go_at_call 124;refine (aS _ _).mono ?_;rintro e w1 ⟨rfl,hb⟩;have HB:=nxt HB hb;obtain ⟨hc,hf⟩:=rules HB;clear hb) | (go_at_call 125;refine (cX _).mono ?_;rintro e w1 ⟨rfl,hb⟩;have HB:=nxt HB hb;obtain ⟨hc,hf⟩:=rules HB;clear hb))
 exact bodyPost_ret (v:=.agg #[.int .i64 2,.int .i64 1]) (by simp [results,Tryz.results188,go_sem,hc,hf]) rfl ⟨rfl,ended HB (bh _ _ _ _) _ _⟩
theorem or_3 (k1 n1 k2 n2:Int) (w:World) (q1T:isT k1 n1=false) (q2T:isT k2 n2=false) (q1F:isF k1 n1=true) (q2F:isF k2 n2=true) :
  Calls Tryz.prog 188 #[.agg #[.int .i64 k1,.int .i64 n1],.agg #[.int .i64 k2,.int .i64 n2]] w fun e w'=>e=.returned (.agg #[.int .i64 2,.int .i64 0])∧Below w.heap.size w w':=by
 have HB:Hid (Below (((w.alloc (.cells #[.int .i64 k1,.int .i64 n1] 41)).alloc (.cells #[.int .i64 k2,.int .i64 n2] 41)).alloc (.cells #[.int .i64 0,.int .i64 0] 41)).heap.size (((w.alloc (.cells #[.int .i64 k1,.int .i64 n1] 41)).alloc (.cells #[.int .i64 k2,.int .i64 n2] 41)).alloc (.cells #[.int .i64 0,.int .i64 0] 41)) (((w.alloc (.cells #[.int .i64 k1,.int .i64 n1] 41)).alloc (.cells #[.int .i64 k2,.int .i64 n2] 41)).alloc (.cells #[.int .i64 0,.int .i64 0] 41))):=Below.refl _ _;have kn:=bG (((w.alloc (.cells #[.int .i64 k1,.int .i64 n1] 41)).alloc (.cells #[.int .i64 k2,.int .i64 n2] 41)).alloc (.cells #[.int .i64 0,.int .i64 0] 41));have kr:=bn (((w.alloc (.cells #[.int .i64 k1,.int .i64 n1] 41)).alloc (.cells #[.int .i64 k2,.int .i64 n2] 41)).alloc (.cells #[.int .i64 0,.int .i64 0] 41));obtain ⟨kc,kf⟩:=kr;have g1T:(k1 == 2 && n1 == 1)=false:=q1T;clear q1T;have g2T:(k2 == 2 && n2 == 1)=false:=q2T;clear q2T;have g1F:(k1 == 2 && n1 == 0)=true:=q1F;clear q1F;have g2F:(k2 == 2 && n2 == 0)=true:=q2F;clear q2F
 go_enter Tryz.func188,Tryz.ntmps188
 go_wp2
 refine aD HB (by kernel_rfl) (by kernel_rfl) ?_
 repeat (go_big_quiet_step ((go_at_call 124;exact co (aS _ _))))
 refine wpQuiet_nil ?_;rintro _ ⟨p,rfl⟩;have HB:Hid _:=p.h
 go_wp2
 refine aD HB (by kernel_rfl) (by kernel_rfl) ?_
 repeat (go_big_quiet_step ((go_at_call 124;exact co (aS _ _))))
 refine wpQuiet_nil ?_;rintro _ ⟨p,rfl⟩;have HB:Hid _:=p.h
 go_wp2_with (first | (go_at_call 124;refine (aS _ _).mono ?_;rintro e w1 ⟨rfl,hb⟩;have HB:=nxt HB hb;obtain ⟨hc,hf⟩:=rules HB;clear hb) | (go_at_call 125;refine (cX _).mono ?_;rintro e w1 ⟨rfl,hb⟩;have HB:=nxt HB hb;obtain ⟨hc,hf⟩:=rules HB;clear hb))
 exact bodyPost_ret (v:=.agg #[.int .i64 2,.int .i64 0]) (by simp [results,Tryz.results188,go_sem,hc,hf]) rfl ⟨rfl,ended HB (bh _ _ _ _) _ _⟩
theorem or_4 (k1 n1 k2 n2:Int) (w:World) (q1T:isT k1 n1=false) (q2T:isT k2 n2=false) (q1F:isF k1 n1=true) (q2F:isF k2 n2=false) :
  Calls Tryz.prog 188 #[.agg #[.int .i64 k1,.int .i64 n1],.agg #[.int .i64 k2,.int .i64 n2]] w fun e w'=>e=.returned (.agg #[.int .i64 0,.int .i64 0])∧Below w.heap.size w w':=by
 have HB:Hid (Below (((w.alloc (.cells #[.int .i64 k1,.int .i64 n1] 41)).alloc (.cells #[.int .i64 k2,.int .i64 n2] 41)).alloc (.cells #[.int .i64 0,.int .i64 0] 41)).heap.size (((w.alloc (.cells #[.int .i64 k1,.int .i64 n1] 41)).alloc (.cells #[.int .i64 k2,.int .i64 n2] 41)).alloc (.cells #[.int .i64 0,.int .i64 0] 41)) (((w.alloc (.cells #[.int .i64 k1,.int .i64 n1] 41)).alloc (.cells #[.int .i64 k2,.int .i64 n2] 41)).alloc (.cells #[.int .i64 0,.int .i64 0] 41))):=Below.refl _ _;have kn:=bG (((w.alloc (.cells #[.int .i64 k1,.int .i64 n1] 41)).alloc (.cells #[.int .i64 k2,.int .i64 n2] 41)).alloc (.cells #[.int .i64 0,.int .i64 0] 41));have kr:=bn (((w.alloc (.cells #[.int .i64 k1,.int .i64 n1] 41)).alloc (.cells #[.int .i64 k2,.int .i64 n2] 41)).alloc (.cells #[.int .i64 0,.int .i64 0] 41));obtain ⟨kc,kf⟩:=kr;have g1T:(k1 == 2 && n1 == 1)=false:=q1T;clear q1T;have g2T:(k2 == 2 && n2 == 1)=false:=q2T;clear q2T;have g1F:(k1 == 2 && n1 == 0)=true:=q1F;clear q1F;have g2F:(k2 == 2 && n2 == 0)=false:=q2F;clear q2F
 go_enter Tryz.func188,Tryz.ntmps188
 go_wp2
 refine aD HB (by kernel_rfl) (by kernel_rfl) ?_
 repeat (go_big_quiet_step ((go_at_call 124;exact co (aS _ _))))
 refine wpQuiet_nil ?_;rintro _ ⟨p,rfl⟩;have HB:Hid _:=p.h
 go_wp2
 refine aD HB (by kernel_rfl) (by kernel_rfl) ?_
 repeat (go_big_quiet_step ((go_at_call 124;exact co (aS _ _))))
 refine wpQuiet_nil ?_;rintro _ ⟨p,rfl⟩;have HB:Hid _:=p.h
 go_wp2_with (first | (go_at_call 124;refine (aS _ _).mono ?_;rintro e w1 ⟨rfl,hb⟩;have HB:=nxt HB hb;obtain ⟨hc,hf⟩:=rules HB;clear hb) | (go_at_call 125;refine (cX _).mono ?_;rintro e w1 ⟨rfl,hb⟩;have HB:=nxt HB hb;obtain ⟨hc,hf⟩:=rules HB;clear hb))
 exact bodyPost_ret (v:=.agg #[.int .i64 0,.int .i64 0]) (by simp [results,Tryz.results188,go_sem,hc,hf]) rfl ⟨rfl,ended HB (bh _ _ _ _) _ _⟩
theorem or_5 (k1 n1 k2 n2:Int) (w:World) (q1T:isT k1 n1=false) (q2T:isT k2 n2=false) (q1F:isF k1 n1=false) :
  Calls Tryz.prog 188 #[.agg #[.int .i64 k1,.int .i64 n1],.agg #[.int .i64 k2,.int .i64 n2]] w fun e w'=>e=.returned (.agg #[.int .i64 0,.int .i64 0])∧Below w.heap.size w w':=by
 have HB:Hid (Below (((w.alloc (.cells #[.int .i64 k1,.int .i64 n1] 41)).alloc (.cells #[.int .i64 k2,.int .i64 n2] 41)).alloc (.cells #[.int .i64 0,.int .i64 0] 41)).heap.size (((w.alloc (.cells #[.int .i64 k1,.int .i64 n1] 41)).alloc (.cells #[.int .i64 k2,.int .i64 n2] 41)).alloc (.cells #[.int .i64 0,.int .i64 0] 41)) (((w.alloc (.cells #[.int .i64 k1,.int .i64 n1] 41)).alloc (.cells #[.int .i64 k2,.int .i64 n2] 41)).alloc (.cells #[.int .i64 0,.int .i64 0] 41))):=Below.refl _ _;have kn:=bG (((w.alloc (.cells #[.int .i64 k1,.int .i64 n1] 41)).alloc (.cells #[.int .i64 k2,.int .i64 n2] 41)).alloc (.cells #[.int .i64 0,.int .i64 0] 41));have kr:=bn (((w.alloc (.cells #[.int .i64 k1,.int .i64 n1] 41)).alloc (.cells #[.int .i64 k2,.int .i64 n2] 41)).alloc (.cells #[.int .i64 0,.int .i64 0] 41));obtain ⟨kc,kf⟩:=kr;have g1T:(k1 == 2 && n1 == 1)=false:=q1T;clear q1T;have g2T:(k2 == 2 && n2 == 1)=false:=q2T;clear q2T;have g1F:(k1 == 2 && n1 == 0)=false:=q1F;clear q1F
 go_enter Tryz.func188,Tryz.ntmps188
 go_wp2
 refine aD HB (by kernel_rfl) (by kernel_rfl) ?_
 repeat (go_big_quiet_step ((go_at_call 124;exact co (aS _ _))))
 refine wpQuiet_nil ?_;rintro _ ⟨p,rfl⟩;have HB:Hid _:=p.h
 go_wp2
 refine aD HB (by kernel_rfl) (by kernel_rfl) ?_
 repeat (go_big_quiet_step ((go_at_call 124;exact co (aS _ _))))
 refine wpQuiet_nil ?_;rintro _ ⟨p,rfl⟩;have HB:Hid _:=p.h
 go_wp2_with (first | (go_at_call 124;refine (aS _ _).mono ?_;rintro e w1 ⟨rfl,hb⟩;have HB:=nxt HB hb;obtain ⟨hc,hf⟩:=rules HB;clear hb) | (go_at_call 125;refine (cX _).mono ?_;rintro e w1 ⟨rfl,hb⟩;have HB:=nxt HB hb;obtain ⟨hc,hf⟩:=rules HB;clear hb))
 exact bodyPost_ret (v:=.agg #[.int .i64 0,.int .i64 0]) (by simp [results,Tryz.results188,go_sem,hc,hf]) rfl ⟨rfl,ended HB (bh _ _ _ _) _ _⟩
theorem or_any (k1 n1 k2 n2:Int) (w:World) :
  Calls Tryz.prog 188 #[.agg #[.int .i64 k1,.int .i64 n1],.agg #[.int .i64 k2,.int .i64 n2]] w fun e w'=>e=.returned (.agg #[.int .i64 (orK k1 n1 k2 n2),.int .i64 (orN k1 n1 k2 n2)])∧Below w.heap.size w w':=by
 cases h1:isT k1 n1
 ·cases h2:isT k2 n2
  ·cases h3:isF k1 n1
   ·have e1:orK k1 n1 k2 n2=0:=by simp [orK,h1,h2,h3]
    have e2:orN k1 n1 k2 n2=0:=by simp [orN,h1,h2,h3]
    rw [e1,e2];exact or_5 k1 n1 k2 n2 w h1 h2 h3
   ·cases h4:isF k2 n2
    ·have e1:orK k1 n1 k2 n2=0:=by simp [orK,h1,h2,h3,h4]
     have e2:orN k1 n1 k2 n2=0:=by simp [orN,h1,h2,h3,h4]
     rw [e1,e2];exact or_4 k1 n1 k2 n2 w h1 h2 h3 h4
    ·have e1:orK k1 n1 k2 n2=2:=by simp [orK,h1,h2,h3,h4]
     have e2:orN k1 n1 k2 n2=0:=by simp [orN,h1,h2,h3,h4]
     rw [e1,e2];exact or_3 k1 n1 k2 n2 w h1 h2 h3 h4
  ·have e1:orK k1 n1 k2 n2=2:=by simp [orK,h2]
   have e2:orN k1 n1 k2 n2=1:=by simp [orN,h2]
   rw [e1,e2];exact or_2 k1 n1 k2 n2 w h1 h2
 ·have e1:orK k1 n1 k2 n2=2:=by simp [orK,h1]
  have e2:orN k1 n1 k2 n2=1:=by simp [orN,h1]
  rw [e1,e2];exact or_1 k1 n1 k2 n2 w h1
end Go.Proofs.YtcgjflamgnjhcaaGreatDoor
namespace Go.Proofs.YtcgjflamgnjhcaaGreatDoor
open Go.ChangeShapes Go.WideShapes Go.ChangeAt Go.RowKit
def b01 (b:Bool):Int:=if b then 1 else 0
theorem pu (b:Bool) (w:World) :
  Calls Tryz.prog 124 #[.bool b] w fun e w'=>e=.returned (.agg #[.int .i64 2,.int .i64 (b01 b)])∧w'=w.alloc (.cells #[.int .i64 2,.int .i64 (b01 b)] 41):=by
 cases b
 ·exact cR false w
 ·exact cR true w
theorem kB (b:Bool) (w:World) :
  Calls Tryz.prog 124 #[.bool b] w fun e w'=>e=.returned (.agg #[.int .i64 2,.int .i64 (b01 b)])∧Below w.heap.size w w' :=
 (pu b w).mono fun e w' ⟨h1,h2⟩=>⟨h1,by rw [h2];exact (Below.refl _ _).alloc (Nat.le_refl _) _⟩
def py (n:Int):Int×Int:=(numK n,numN n)
def tru (b:Bool):Int×Int:=(2,b01 b)
def doV (op k1 n1 k2 n2:Int):Int×Int :=
 if op=9 then (mb k1 n1 k2 n2,m7 k1 n1 k2 n2) else if op=10 then (orK k1 n1 k2 n2,orN k1 n1 k2 n2) else
 if k1=1∧k2=1 then
  if op=6 then py (n1+n2) else if op=7 then py (n1 - n2) else if op=8 then py (n1 * n2) else
  if op=11 then tru (decide (n1 < n2)) else if op=12 then tru (n1 == n2) else (0,0)
 else (0,0)
def nT (k n:Int):Int×Int:=if k=2 then tru (n == 0) else (0,0)
def nW (k n:Int):Int×Int:=if k=1 then py (-n) else (0,0)
theorem not_any (k n:Int) (w:World) :
  Calls Tryz.prog 176 #[.agg #[.int .i64 k,.int .i64 n]] w fun e w'=>e=.returned (.agg #[.int .i64 (nT k n).1,.int .i64 (nT k n).2])∧Below w.heap.size w w':=by
 by_cases h:k=2
 ·have e1:nT k n=tru (n == 0):=by unfold nT;rw [if_pos h]
  rw [e1];clear e1;subst h;unfold tru
  dsimp only
  go_enter Tryz.func176,Tryz.ntmps176
  go_wp2_with (go_at_call 124;refine (pu _ _).mono ?_;rintro e w' ⟨rfl,rfl⟩)
  refine bodyPost_ret (v:=.agg #[.int .i64 2,.int .i64 (b01 (n == 0))]) (by simp [results,Tryz.results176,go_sem]) rfl ⟨rfl,?_⟩
  repeat (first | exact Below.refl _ _ | assumption | refine Below.drew ?_ | refine Below.alloc ?_ (by simp <;> omega) _ | refine Below.setCell ?_ (by simp <;> omega) _)
 ·have e1:nT k n=(0,0):=by unfold nT;rw [if_neg h]
  rw [e1];clear e1;have hk:(k != 2)=true:=by simp [h]
  clear h
  go_enter Tryz.func176,Tryz.ntmps176
  go_wp2_with (go_at_call 125;refine (cz _).mono ?_;rintro e w' ⟨rfl,rfl⟩)
  refine bodyPost_ret (v:=.agg #[.int .i64 0,.int .i64 0]) (by simp [results,Tryz.results176,go_sem]) rfl ⟨rfl,?_⟩
  repeat (first | exact Below.refl _ _ | assumption | refine Below.drew ?_ | refine Below.alloc ?_ (by simp <;> omega) _ | refine Below.setCell ?_ (by simp <;> omega) _)
theorem neg_any (k n:Int) (w:World) (h1:-1000000000≤n) (h2:n≤1000000000) :
  Calls Tryz.prog 175 #[.agg #[.int .i64 k,.int .i64 n]] w fun e w'=>e=.returned (.agg #[.int .i64 (nW k n).1,.int .i64 (nW k n).2])∧Below w.heap.size w w':=by
 by_cases h:k=1
 ·have e1:nW k n=py (-n):=by unfold nW;rw [if_pos h]
  rw [e1];clear e1;subst h;unfold py
  dsimp only
  go_enter Tryz.func175,Tryz.ntmps175
  go_wp2_with fail;refine (bK _ _).mono ?_;rintro e w1 ⟨rfl,hb1⟩;have HB:Hid _:=hb1;obtain ⟨hc,hf⟩:=bcell hb1;have hz:=hb1.size;clear hb1;simp only [World.size_alloc] at hc hf hz
  go_wp2
  refine bodyPost_ret (v:=.agg #[.int .i64 (numK (-n)),.int .i64 (numN (-n))]) (by simp [results,Tryz.results175,go_sem,hc,hf]) rfl ⟨rfl,?_⟩;exact ((((((Below.refl _ _).alloc (Nat.le_refl _) _).alloc (by simp) _).trans (HB.out.mono (by simp;omega)))).setCell (by simp) _).setCell (by simp) _
 ·have e1:nW k n=(0,0):=by unfold nW;rw [if_neg h]
  rw [e1];clear e1;have hk:(k != 1)=true:=by simp [h]
  clear h
  go_enter Tryz.func175,Tryz.ntmps175
  go_wp2_with (go_at_call 125;refine (cz _).mono ?_;rintro e w' ⟨rfl,rfl⟩)
  refine bodyPost_ret (v:=.agg #[.int .i64 0,.int .i64 0]) (by simp [results,Tryz.results175,go_sem]) rfl ⟨rfl,?_⟩
  repeat (first | exact Below.refl _ _ | assumption | refine Below.drew ?_ | refine Below.alloc ?_ (by simp <;> omega) _ | refine Below.setCell ?_ (by simp <;> omega) _)
theorem pO (a b:Int) (a1:-1000000000≤a) (a2:a≤1000000000) (a3:-1000000000≤b) (a4:b≤1000000000):a * b≤1000000000000000000:=by
 have h1:0≤(1000000000 - a) * (1000000000+b):=Int.mul_nonneg (by omega) (by omega);have h2:0≤(1000000000+a) * (1000000000 - b):=Int.mul_nonneg (by omega) (by omega);simp only [Int.sub_mul,Int.mul_add,Int.add_mul,Int.mul_sub] at h1 h2;omega
theorem mul_lo (a b:Int) (a1:-1000000000≤a) (a2:a≤1000000000) (a3:-1000000000≤b) (a4:b≤1000000000):-1000000000000000000≤a * b:=by
 have h:=pO (-a) b (by omega) (by omega) a3 a4;rw [Int.neg_mul] at h;omega
theorem do_and (k1 n1 k2 n2:Int) (w:World)  :
  Calls Tryz.prog 177 #[.int .i64 9,.agg #[.int .i64 k1,.int .i64 n1],.agg #[.int .i64 k2,.int .i64 n2]] w fun e w'=>e=.returned (.agg #[.int .i64 (mb k1 n1 k2 n2),.int .i64 (m7 k1 n1 k2 n2)])∧Below w.heap.size w w':=by
 have HB:Hid (Below (((w.alloc (.cells #[.int .i64 k1,.int .i64 n1] 41)).alloc (.cells #[.int .i64 k2,.int .i64 n2] 41)).alloc (.cells #[.int .i64 0,.int .i64 0] 41)).heap.size (((w.alloc (.cells #[.int .i64 k1,.int .i64 n1] 41)).alloc (.cells #[.int .i64 k2,.int .i64 n2] 41)).alloc (.cells #[.int .i64 0,.int .i64 0] 41)) (((w.alloc (.cells #[.int .i64 k1,.int .i64 n1] 41)).alloc (.cells #[.int .i64 k2,.int .i64 n2] 41)).alloc (.cells #[.int .i64 0,.int .i64 0] 41))):=Below.refl _ _
 go_enter Tryz.func177,Tryz.ntmps177
 go_wp2_with (go_at_call 187;refine (and_any _ _ _ _ _).mono ?_;rintro e w1 ⟨rfl,hb⟩;have HB:=nxt HB hb;obtain ⟨hc,hf⟩:=rules HB;clear hb)
 exact bodyPost_ret (v:=.agg #[.int .i64 (mb k1 n1 k2 n2),.int .i64 (m7 k1 n1 k2 n2)]) (by simp [results,Tryz.results177,go_sem,hc,hf]) rfl ⟨rfl,ended HB (bh _ _ _ _) _ _⟩
theorem do_or (k1 n1 k2 n2:Int) (w:World)  :
  Calls Tryz.prog 177 #[.int .i64 10,.agg #[.int .i64 k1,.int .i64 n1],.agg #[.int .i64 k2,.int .i64 n2]] w fun e w'=>e=.returned (.agg #[.int .i64 (orK k1 n1 k2 n2),.int .i64 (orN k1 n1 k2 n2)])∧Below w.heap.size w w':=by
 have HB:Hid (Below (((w.alloc (.cells #[.int .i64 k1,.int .i64 n1] 41)).alloc (.cells #[.int .i64 k2,.int .i64 n2] 41)).alloc (.cells #[.int .i64 0,.int .i64 0] 41)).heap.size (((w.alloc (.cells #[.int .i64 k1,.int .i64 n1] 41)).alloc (.cells #[.int .i64 k2,.int .i64 n2] 41)).alloc (.cells #[.int .i64 0,.int .i64 0] 41)) (((w.alloc (.cells #[.int .i64 k1,.int .i64 n1] 41)).alloc (.cells #[.int .i64 k2,.int .i64 n2] 41)).alloc (.cells #[.int .i64 0,.int .i64 0] 41))):=Below.refl _ _
 go_enter Tryz.func177,Tryz.ntmps177
 go_wp2_with (go_at_call 188;refine (or_any _ _ _ _ _).mono ?_;rintro e w1 ⟨rfl,hb⟩;have HB:=nxt HB hb;obtain ⟨hc,hf⟩:=rules HB;clear hb)
 exact bodyPost_ret (v:=.agg #[.int .i64 (orK k1 n1 k2 n2),.int .i64 (orN k1 n1 k2 n2)]) (by simp [results,Tryz.results177,go_sem,hc,hf]) rfl ⟨rfl,ended HB (bh _ _ _ _) _ _⟩
theorem do_no1 (op k1 n1 k2 n2:Int) (w:World) (h9:(op == 9)=false) (h10:(op == 10)=false) (hk:(k1 != 1)=true) :
  Calls Tryz.prog 177 #[.int .i64 op,.agg #[.int .i64 k1,.int .i64 n1],.agg #[.int .i64 k2,.int .i64 n2]] w fun e w'=>e=.returned (.agg #[.int .i64 0,.int .i64 0])∧Below w.heap.size w w':=by
 have HB:Hid (Below (((w.alloc (.cells #[.int .i64 k1,.int .i64 n1] 41)).alloc (.cells #[.int .i64 k2,.int .i64 n2] 41)).alloc (.cells #[.int .i64 0,.int .i64 0] 41)).heap.size (((w.alloc (.cells #[.int .i64 k1,.int .i64 n1] 41)).alloc (.cells #[.int .i64 k2,.int .i64 n2] 41)).alloc (.cells #[.int .i64 0,.int .i64 0] 41)) (((w.alloc (.cells #[.int .i64 k1,.int .i64 n1] 41)).alloc (.cells #[.int .i64 k2,.int .i64 n2] 41)).alloc (.cells #[.int .i64 0,.int .i64 0] 41))):=Below.refl _ _
 go_enter Tryz.func177,Tryz.ntmps177
 go_wp2_with (go_at_call 125;refine (cX _).mono ?_;rintro e w1 ⟨rfl,hb⟩;have HB:=nxt HB hb;obtain ⟨hc,hf⟩:=rules HB;clear hb)
 exact bodyPost_ret (v:=.agg #[.int .i64 0,.int .i64 0]) (by simp [results,Tryz.results177,go_sem,hc,hf]) rfl ⟨rfl,ended HB (bh _ _ _ _) _ _⟩
theorem do_no2 (op k1 n1 k2 n2:Int) (w:World) (h9:(op == 9)=false) (h10:(op == 10)=false) (hk:(k1 != 1)=false) (hl:(k2 != 1)=true) :
  Calls Tryz.prog 177 #[.int .i64 op,.agg #[.int .i64 k1,.int .i64 n1],.agg #[.int .i64 k2,.int .i64 n2]] w fun e w'=>e=.returned (.agg #[.int .i64 0,.int .i64 0])∧Below w.heap.size w w':=by
 have HB:Hid (Below (((w.alloc (.cells #[.int .i64 k1,.int .i64 n1] 41)).alloc (.cells #[.int .i64 k2,.int .i64 n2] 41)).alloc (.cells #[.int .i64 0,.int .i64 0] 41)).heap.size (((w.alloc (.cells #[.int .i64 k1,.int .i64 n1] 41)).alloc (.cells #[.int .i64 k2,.int .i64 n2] 41)).alloc (.cells #[.int .i64 0,.int .i64 0] 41)) (((w.alloc (.cells #[.int .i64 k1,.int .i64 n1] 41)).alloc (.cells #[.int .i64 k2,.int .i64 n2] 41)).alloc (.cells #[.int .i64 0,.int .i64 0] 41))):=Below.refl _ _
 go_enter Tryz.func177,Tryz.ntmps177
 go_wp2_with (go_at_call 125;refine (cX _).mono ?_;rintro e w1 ⟨rfl,hb⟩;have HB:=nxt HB hb;obtain ⟨hc,hf⟩:=rules HB;clear hb)
 exact bodyPost_ret (v:=.agg #[.int .i64 0,.int .i64 0]) (by simp [results,Tryz.results177,go_sem,hc,hf]) rfl ⟨rfl,ended HB (bh _ _ _ _) _ _⟩
theorem do_add (n1 n2:Int) (w:World) (a1:-1000000000≤n1) (a2:n1≤1000000000) (a3:-1000000000≤n2) (a4:n2≤1000000000) :
  Calls Tryz.prog 177 #[.int .i64 6,.agg #[.int .i64 1,.int .i64 n1],.agg #[.int .i64 1,.int .i64 n2]] w fun e w'=>e=.returned (.agg #[.int .i64 (numK (n1+n2)),.int .i64 (numN (n1+n2))])∧Below w.heap.size w w':=by
 have HB:Hid (Below (((w.alloc (.cells #[.int .i64 1,.int .i64 n1] 41)).alloc (.cells #[.int .i64 1,.int .i64 n2] 41)).alloc (.cells #[.int .i64 0,.int .i64 0] 41)).heap.size (((w.alloc (.cells #[.int .i64 1,.int .i64 n1] 41)).alloc (.cells #[.int .i64 1,.int .i64 n2] 41)).alloc (.cells #[.int .i64 0,.int .i64 0] 41)) (((w.alloc (.cells #[.int .i64 1,.int .i64 n1] 41)).alloc (.cells #[.int .i64 1,.int .i64 n2] 41)).alloc (.cells #[.int .i64 0,.int .i64 0] 41))):=Below.refl _ _;have h1:((1:Int) != 1)=false:=rfl
 go_enter Tryz.func177,Tryz.ntmps177
 go_wp2_with (go_at_call 158;refine (bK _ _).mono ?_;rintro e w1 ⟨rfl,hb⟩;have HB:=nxt HB hb;obtain ⟨hc,hf⟩:=rules HB;clear hb)
 exact bodyPost_ret (v:=.agg #[.int .i64 (numK (n1+n2)),.int .i64 (numN (n1+n2))]) (by simp [results,Tryz.results177,go_sem,hc,hf]) rfl ⟨rfl,ended HB (bh _ _ _ _) _ _⟩
theorem do_sub (n1 n2:Int) (w:World) (a1:-1000000000≤n1) (a2:n1≤1000000000) (a3:-1000000000≤n2) (a4:n2≤1000000000) :
  Calls Tryz.prog 177 #[.int .i64 7,.agg #[.int .i64 1,.int .i64 n1],.agg #[.int .i64 1,.int .i64 n2]] w fun e w'=>e=.returned (.agg #[.int .i64 (numK (n1 - n2)),.int .i64 (numN (n1 - n2))])∧Below w.heap.size w w':=by
 have HB:Hid (Below (((w.alloc (.cells #[.int .i64 1,.int .i64 n1] 41)).alloc (.cells #[.int .i64 1,.int .i64 n2] 41)).alloc (.cells #[.int .i64 0,.int .i64 0] 41)).heap.size (((w.alloc (.cells #[.int .i64 1,.int .i64 n1] 41)).alloc (.cells #[.int .i64 1,.int .i64 n2] 41)).alloc (.cells #[.int .i64 0,.int .i64 0] 41)) (((w.alloc (.cells #[.int .i64 1,.int .i64 n1] 41)).alloc (.cells #[.int .i64 1,.int .i64 n2] 41)).alloc (.cells #[.int .i64 0,.int .i64 0] 41))):=Below.refl _ _;have h1:((1:Int) != 1)=false:=rfl
 go_enter Tryz.func177,Tryz.ntmps177
 go_wp2_with (go_at_call 158;refine (bK _ _).mono ?_;rintro e w1 ⟨rfl,hb⟩;have HB:=nxt HB hb;obtain ⟨hc,hf⟩:=rules HB;clear hb)
 exact bodyPost_ret (v:=.agg #[.int .i64 (numK (n1 - n2)),.int .i64 (numN (n1 - n2))]) (by simp [results,Tryz.results177,go_sem,hc,hf]) rfl ⟨rfl,ended HB (bh _ _ _ _) _ _⟩
theorem do_mul (n1 n2:Int) (w:World) (a1:-1000000000≤n1) (a2:n1≤1000000000) (a3:-1000000000≤n2) (a4:n2≤1000000000) :
  Calls Tryz.prog 177 #[.int .i64 8,.agg #[.int .i64 1,.int .i64 n1],.agg #[.int .i64 1,.int .i64 n2]] w fun e w'=>e=.returned (.agg #[.int .i64 (numK (n1 * n2)),.int .i64 (numN (n1 * n2))])∧Below w.heap.size w w':=by
 have HB:Hid (Below (((w.alloc (.cells #[.int .i64 1,.int .i64 n1] 41)).alloc (.cells #[.int .i64 1,.int .i64 n2] 41)).alloc (.cells #[.int .i64 0,.int .i64 0] 41)).heap.size (((w.alloc (.cells #[.int .i64 1,.int .i64 n1] 41)).alloc (.cells #[.int .i64 1,.int .i64 n2] 41)).alloc (.cells #[.int .i64 0,.int .i64 0] 41)) (((w.alloc (.cells #[.int .i64 1,.int .i64 n1] 41)).alloc (.cells #[.int .i64 1,.int .i64 n2] 41)).alloc (.cells #[.int .i64 0,.int .i64 0] 41))):=Below.refl _ _;have h1:((1:Int) != 1)=false:=rfl;have m1:-1000000000000000000≤n1 * n2:=mul_lo n1 n2 a1 a2 a3 a4;have m2:n1 * n2≤1000000000000000000:=pO n1 n2 a1 a2 a3 a4
 go_enter Tryz.func177,Tryz.ntmps177
 go_wp2_with (go_at_call 158;refine (bK _ _).mono ?_;rintro e w1 ⟨rfl,hb⟩;have HB:=nxt HB hb;obtain ⟨hc,hf⟩:=rules HB;clear hb)
 exact bodyPost_ret (v:=.agg #[.int .i64 (numK (n1 * n2)),.int .i64 (numN (n1 * n2))]) (by simp [results,Tryz.results177,go_sem,hc,hf]) rfl ⟨rfl,ended HB (bh _ _ _ _) _ _⟩
theorem do_less (n1 n2:Int) (w:World) (a1:-1000000000≤n1) (a2:n1≤1000000000) (a3:-1000000000≤n2) (a4:n2≤1000000000) :
  Calls Tryz.prog 177 #[.int .i64 11,.agg #[.int .i64 1,.int .i64 n1],.agg #[.int .i64 1,.int .i64 n2]] w fun e w'=>e=.returned (.agg #[.int .i64 2,.int .i64 (b01 (decide (n1 < n2)))])∧Below w.heap.size w w':=by
 have HB:Hid (Below (((w.alloc (.cells #[.int .i64 1,.int .i64 n1] 41)).alloc (.cells #[.int .i64 1,.int .i64 n2] 41)).alloc (.cells #[.int .i64 0,.int .i64 0] 41)).heap.size (((w.alloc (.cells #[.int .i64 1,.int .i64 n1] 41)).alloc (.cells #[.int .i64 1,.int .i64 n2] 41)).alloc (.cells #[.int .i64 0,.int .i64 0] 41)) (((w.alloc (.cells #[.int .i64 1,.int .i64 n1] 41)).alloc (.cells #[.int .i64 1,.int .i64 n2] 41)).alloc (.cells #[.int .i64 0,.int .i64 0] 41))):=Below.refl _ _;have h1:((1:Int) != 1)=false:=rfl
 go_enter Tryz.func177,Tryz.ntmps177
 go_wp2_with (go_at_call 124;refine (kB _ _).mono ?_;rintro e w1 ⟨rfl,hb⟩;have HB:=nxt HB hb;obtain ⟨hc,hf⟩:=rules HB;clear hb)
 exact bodyPost_ret (v:=.agg #[.int .i64 2,.int .i64 (b01 (decide (n1 < n2)))]) (by simp [results,Tryz.results177,go_sem,hc,hf]) rfl ⟨rfl,ended HB (bh _ _ _ _) _ _⟩
theorem do_same (n1 n2:Int) (w:World) (a1:-1000000000≤n1) (a2:n1≤1000000000) (a3:-1000000000≤n2) (a4:n2≤1000000000) :
  Calls Tryz.prog 177 #[.int .i64 12,.agg #[.int .i64 1,.int .i64 n1],.agg #[.int .i64 1,.int .i64 n2]] w fun e w'=>e=.returned (.agg #[.int .i64 2,.int .i64 (b01 (n1 == n2))])∧Below w.heap.size w w':=by
 have HB:Hid (Below (((w.alloc (.cells #[.int .i64 1,.int .i64 n1] 41)).alloc (.cells #[.int .i64 1,.int .i64 n2] 41)).alloc (.cells #[.int .i64 0,.int .i64 0] 41)).heap.size (((w.alloc (.cells #[.int .i64 1,.int .i64 n1] 41)).alloc (.cells #[.int .i64 1,.int .i64 n2] 41)).alloc (.cells #[.int .i64 0,.int .i64 0] 41)) (((w.alloc (.cells #[.int .i64 1,.int .i64 n1] 41)).alloc (.cells #[.int .i64 1,.int .i64 n2] 41)).alloc (.cells #[.int .i64 0,.int .i64 0] 41))):=Below.refl _ _;have h1:((1:Int) != 1)=false:=rfl
 go_enter Tryz.func177,Tryz.ntmps177
 go_wp2_with (go_at_call 124;refine (kB _ _).mono ?_;rintro e w1 ⟨rfl,hb⟩;have HB:=nxt HB hb;obtain ⟨hc,hf⟩:=rules HB;clear hb)
 exact bodyPost_ret (v:=.agg #[.int .i64 2,.int .i64 (b01 (n1 == n2))]) (by simp [results,Tryz.results177,go_sem,hc,hf]) rfl ⟨rfl,ended HB (bh _ _ _ _) _ _⟩
theorem do_none (op n1 n2:Int) (w:World) (h9:(op == 9)=false) (h10:(op == 10)=false) (h6:(op == 6)=false) (h7:(op == 7)=false) (h8:(op == 8)=false) (h11:(op == 11)=false) (h12:(op == 12)=false) :
  Calls Tryz.prog 177 #[.int .i64 op,.agg #[.int .i64 1,.int .i64 n1],.agg #[.int .i64 1,.int .i64 n2]] w fun e w'=>e=.returned (.agg #[.int .i64 0,.int .i64 0])∧Below w.heap.size w w':=by
 have HB:Hid (Below (((w.alloc (.cells #[.int .i64 1,.int .i64 n1] 41)).alloc (.cells #[.int .i64 1,.int .i64 n2] 41)).alloc (.cells #[.int .i64 0,.int .i64 0] 41)).heap.size (((w.alloc (.cells #[.int .i64 1,.int .i64 n1] 41)).alloc (.cells #[.int .i64 1,.int .i64 n2] 41)).alloc (.cells #[.int .i64 0,.int .i64 0] 41)) (((w.alloc (.cells #[.int .i64 1,.int .i64 n1] 41)).alloc (.cells #[.int .i64 1,.int .i64 n2] 41)).alloc (.cells #[.int .i64 0,.int .i64 0] 41))):=Below.refl _ _;have h1:((1:Int) != 1)=false:=rfl
 go_enter Tryz.func177,Tryz.ntmps177
 go_wp2_with (go_at_call 125;refine (cX _).mono ?_;rintro e w1 ⟨rfl,hb⟩;have HB:=nxt HB hb;obtain ⟨hc,hf⟩:=rules HB;clear hb)
 exact bodyPost_ret (v:=.agg #[.int .i64 0,.int .i64 0]) (by simp [results,Tryz.results177,go_sem,hc,hf]) rfl ⟨rfl,ended HB (bh _ _ _ _) _ _⟩
theorem do_any (op k1 n1 k2 n2:Int) (w:World) (a1:-1000000000≤n1) (a2:n1≤1000000000) (a3:-1000000000≤n2) (a4:n2≤1000000000) :
  Calls Tryz.prog 177 #[.int .i64 op,.agg #[.int .i64 k1,.int .i64 n1],.agg #[.int .i64 k2,.int .i64 n2]] w fun e w'=>e=.returned (.agg #[.int .i64 (doV op k1 n1 k2 n2).1,.int .i64 (doV op k1 n1 k2 n2).2])∧Below w.heap.size w w':=by
 by_cases h9:op=9
 ·subst h9;exact do_and k1 n1 k2 n2 w
 ·by_cases h10:op=10
  ·subst h10;exact do_or k1 n1 k2 n2 w
  ·have g9:(op == 9)=false:=by simp [h9]
   have g10:(op == 10)=false:=by simp [h10]
   by_cases k:k1=1∧k2=1
   ·obtain ⟨rfl,rfl⟩:=k
    by_cases h6:op=6
    ·subst h6;exact do_add n1 n2 w a1 a2 a3 a4
    ·by_cases h7:op=7
     ·subst h7;exact do_sub n1 n2 w a1 a2 a3 a4
     ·by_cases h8:op=8
      ·subst h8;exact do_mul n1 n2 w a1 a2 a3 a4
      ·by_cases h11:op=11
       ·subst h11;exact do_less n1 n2 w a1 a2 a3 a4
       ·by_cases h12:op=12
        ·subst h12;exact do_same n1 n2 w a1 a2 a3 a4
        ·have e:doV op 1 n1 1 n2=(0,0):=by simp [doV,h9,h10,h6,h7,h8,h11,h12]
         rw [e];exact do_none op n1 n2 w g9 g10 (by simp [h6]) (by simp [h7]) (by simp [h8]) (by simp [h11]) (by simp [h12])
   ·have e:doV op k1 n1 k2 n2=(0,0):=by simp only [doV,h9,h10,k,if_false]
    rw [e]
    by_cases hk:k1=1
    ·exact do_no2 op k1 n1 k2 n2 w g9 g10 (by simp [hk]) (by simp;exact fun h=>k ⟨hk,h⟩)
    ·exact do_no1 op k1 n1 k2 n2 w g9 g10 (by simp [hk])
end Go.Proofs.YtcgjflamgnjhcaaGreatDoor

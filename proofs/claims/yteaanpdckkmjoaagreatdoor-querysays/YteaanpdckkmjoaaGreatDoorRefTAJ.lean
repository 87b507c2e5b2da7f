/- Several texts in one, each with its own head. What is proved: what the parts say. Conditions: theirs. -/
import Derived.Test.YteaanpdckkmjoaaGreatDoorChkRJ
import Derived.Test.YteaanpdckkmjoaaGreatDoorPrsLJ
import Derived.Test.YteaanpdckkmjoaaGreatDoorExprPureJ
set_option linter.unusedVariables false
set_option linter.unusedSimpArgs false
set_option maxRecDepth 100000
set_option maxHeartbeats 8000000
namespace Go.Proofs.YteaanpdckkmjoaaGreatDoor
open Go.ChangeShapes Go.WideShapes Go.ChangeAt Go.RowKit
def wantT (op : Int) : Int:=if op = 4 ∨ op = 9 ∨ op = 10 then 2 else 1
def tyR (op a b : Int) (oa ob : Bool) : Int × Bool :=
 if !(oa && ob) then (0,false) else if op = 5 then (2,true) else
 if (a != 0) && (a != wantT op) || (b != 0) && (b != wantT op) then (0,false) else (if op = 11 ∨ op = 12 then 2 else wantT op,true)
theorem rta_1 (l : List Nd) (ao : Option Addr) (cap : Nat) (i : Nat) (k v : Int) (w : World) (hl : l.length ≤ 1000) (hi : i < l.length)
  (hr : RowG w (.slice ao l.length cap) 6 l.length (rowN l)) (hn : l[i]? = some ⟨1,0,0,0,k,v⟩) :
  Calls Tryz.prog 65 #[.slice ao l.length cap,.int .i64 (i : Int)] w fun e w' => e = .returned (.tuple #[.int .i64 k,.bool true]) ∧ Below w.heap.size w w':=by
 obtain ⟨g,off,rfl,hnode,l1,l2,l3⟩:=rowN_node hr i hi
 rw [(List.getElem?_eq_some_iff.1 hn).2] at hnode
 obtain ⟨n0,n1,n2,n3,n4,n5⟩:=hnode
 simp only at n0 n1 n2 n3 n4 n5
 have HR:=hidE hr
 clear hr hn
 unfold maxLen at l2
 go_enter Tryz.func65,Tryz.ntmps65
 go_wp2_with fail
 go_ret2
 exact ⟨rfl,(Below.refl _ _).alloc (Nat.le_refl _) _⟩
theorem rta_2 (l : List Nd) (ao : Option Addr) (cap : Nat) (i : Nat) (nn : Int) (w : World) (hl : l.length ≤ 1000) (hi : i < l.length)
  (hr : RowG w (.slice ao l.length cap) 6 l.length (rowN l)) (hn : l[i]? = some ⟨2,0,0,nn,0,0⟩) :
  Calls Tryz.prog 65 #[.slice ao l.length cap,.int .i64 (i : Int)] w fun e w' => e = .returned (.tuple #[.int .i64 1,.bool true]) ∧ Below w.heap.size w w':=by
 obtain ⟨g,off,rfl,hnode,l1,l2,l3⟩:=rowN_node hr i hi
 rw [(List.getElem?_eq_some_iff.1 hn).2] at hnode
 obtain ⟨n0,n1,n2,n3,n4,n5⟩:=hnode
 simp only at n0 n1 n2 n3 n4 n5
 have HR:=hidE hr
 clear hr hn
 unfold maxLen at l2
 go_enter Tryz.func65,Tryz.ntmps65
 go_wp2_with fail
 go_ret2
 exact ⟨rfl,(Below.refl _ _).alloc (Nat.le_refl _) _⟩
theorem rta_3 (l : List Nd) (ao : Option Addr) (cap : Nat) (i : Nat) (x a : Int) (oa : Bool) (w : World) (hl : l.length ≤ 1000) (hi : i < l.length)
  (hr : RowG w (.slice ao l.length cap) 6 l.length (rowN l)) (hn : l[i]? = some ⟨3,x,0,0,0,0⟩) (CX : ∀ w,RowG w (.slice ao l.length cap) 6 l.length (rowN l) → Calls Tryz.prog 65 #[.slice ao l.length cap,.int .i64 x] w fun e w' => e = .returned (.tuple #[.int .i64 a,.bool oa]) ∧ Below w.heap.size w w') :
  Calls Tryz.prog 65 #[.slice ao l.length cap,.int .i64 (i : Int)] w fun e w' => e = .returned (.tuple #[.int .i64 (tyR 3 a a oa oa).1,.bool (tyR 3 a a oa oa).2]) ∧ Below w.heap.size w w':=by
 obtain ⟨g,off,rfl,hnode,l1,l2,l3⟩:=rowN_node hr i hi
 rw [(List.getElem?_eq_some_iff.1 hn).2] at hnode
 obtain ⟨n0,n1,n2,n3,n4,n5⟩:=hnode
 simp only at n0 n1 n2 n3 n4 n5
 have HR:=hidE hr
 have HCX:=hidE CX
 clear hr CX hn
 unfold maxLen at l2
 have HW : Hid (Below w.heap.size w (w.alloc (.cells #[.int .i64 3,.int .i64 x,.int .i64 0,.int .i64 0,.int .i64 0,.int .i64 0] 91))):=(Below.refl _ _).alloc (Nat.le_refl _) _
 go_enter Tryz.func65,Tryz.ntmps65
 go_wp2_with fail
 refine (HCX.out _ (rowG_below HR.out HW.out)).mono ?_
 rintro e w1 ⟨rfl,hb⟩
 have HB:=hidE hb
 obtain ⟨hc,hf⟩:=bcell hb
 clear hb
 cases oa
 ·go_wp2_with (go_at_call 63;refine (rarity_any _ _).mono ?_;rintro e w' ⟨rfl,hw⟩;subst w')
  go_ret2
  exact ⟨rfl,done HW.out HB⟩
 ·cases hp : (a != 0) <;> cases hq : (a != 1)
  all_goals
   have hw : wantT 3 = 1:=by decide
   first
   |(have HX : Hid (tyR 3 a a true true = (0,false)):=(by show _ = _;unfold tyR;simp only [hw,hp,hq];rfl)
     clear hw
     go_wp2_with (go_at_call 63;refine (rarity_any _ _).mono ?_;rintro e w' ⟨rfl,hw⟩;subst w')
     all_goals (go_ret2;exact ⟨by rw [HX.out];rfl,done HW.out HB⟩))
   |(have HX : Hid (tyR 3 a a true true = (1,true)):=(by show _ = _;unfold tyR;simp only [hw,hp,hq];rfl)
     clear hw
     go_wp2_with (go_at_call 63;refine (rarity_any _ _).mono ?_;rintro e w' ⟨rfl,hw⟩;subst w')
     all_goals (go_ret2;exact ⟨by rw [HX.out];rfl,done HW.out HB⟩))
theorem rta_4 (l : List Nd) (ao : Option Addr) (cap : Nat) (i : Nat) (x a : Int) (oa : Bool) (w : World) (hl : l.length ≤ 1000) (hi : i < l.length)
  (hr : RowG w (.slice ao l.length cap) 6 l.length (rowN l)) (hn : l[i]? = some ⟨4,x,0,0,0,0⟩) (CX : ∀ w,RowG w (.slice ao l.length cap) 6 l.length (rowN l) → Calls Tryz.prog 65 #[.slice ao l.length cap,.int .i64 x] w fun e w' => e = .returned (.tuple #[.int .i64 a,.bool oa]) ∧ Below w.heap.size w w') :
  Calls Tryz.prog 65 #[.slice ao l.length cap,.int .i64 (i : Int)] w fun e w' => e = .returned (.tuple #[.int .i64 (tyR 4 a a oa oa).1,.bool (tyR 4 a a oa oa).2]) ∧ Below w.heap.size w w':=by
 obtain ⟨g,off,rfl,hnode,l1,l2,l3⟩:=rowN_node hr i hi
 rw [(List.getElem?_eq_some_iff.1 hn).2] at hnode
 obtain ⟨n0,n1,n2,n3,n4,n5⟩:=hnode
 simp only at n0 n1 n2 n3 n4 n5
 have HR:=hidE hr
 have HCX:=hidE CX
 clear hr CX hn
 unfold maxLen at l2
 have HW : Hid (Below w.heap.size w (w.alloc (.cells #[.int .i64 4,.int .i64 x,.int .i64 0,.int .i64 0,.int .i64 0,.int .i64 0] 91))):=(Below.refl _ _).alloc (Nat.le_refl _) _
 go_enter Tryz.func65,Tryz.ntmps65
 go_wp2_with fail
 refine (HCX.out _ (rowG_below HR.out HW.out)).mono ?_
 rintro e w1 ⟨rfl,hb⟩
 have HB:=hidE hb
 obtain ⟨hc,hf⟩:=bcell hb
 clear hb
 cases oa
 ·go_wp2_with (go_at_call 63;refine (rarity_any _ _).mono ?_;rintro e w' ⟨rfl,hw⟩;subst w')
  go_ret2
  exact ⟨rfl,done HW.out HB⟩
 ·cases hp : (a != 0) <;> cases hq : (a != 2)
  all_goals
   have hw : wantT 4 = 2:=by decide
   first
   |(have HX : Hid (tyR 4 a a true true = (0,false)):=(by show _ = _;unfold tyR;simp only [hw,hp,hq];rfl)
     clear hw
     go_wp2_with (go_at_call 63;refine (rarity_any _ _).mono ?_;rintro e w' ⟨rfl,hw⟩;subst w')
     all_goals (go_ret2;exact ⟨by rw [HX.out];rfl,done HW.out HB⟩))
   |(have HX : Hid (tyR 4 a a true true = (2,true)):=(by show _ = _;unfold tyR;simp only [hw,hp,hq];rfl)
     clear hw
     go_wp2_with (go_at_call 63;refine (rarity_any _ _).mono ?_;rintro e w' ⟨rfl,hw⟩;subst w')
     all_goals (go_ret2;exact ⟨by rw [HX.out];rfl,done HW.out HB⟩))
theorem rta_5 (l : List Nd) (ao : Option Addr) (cap : Nat) (i : Nat) (x a : Int) (oa : Bool) (w : World) (hl : l.length ≤ 1000) (hi : i < l.length)
  (hr : RowG w (.slice ao l.length cap) 6 l.length (rowN l)) (hn : l[i]? = some ⟨5,x,0,0,0,0⟩) (CX : ∀ w,RowG w (.slice ao l.length cap) 6 l.length (rowN l) → Calls Tryz.prog 65 #[.slice ao l.length cap,.int .i64 x] w fun e w' => e = .returned (.tuple #[.int .i64 a,.bool oa]) ∧ Below w.heap.size w w') :
  Calls Tryz.prog 65 #[.slice ao l.length cap,.int .i64 (i : Int)] w fun e w' => e = .returned (.tuple #[.int .i64 (tyR 5 a a oa oa).1,.bool (tyR 5 a a oa oa).2]) ∧ Below w.heap.size w w':=by
 obtain ⟨g,off,rfl,hnode,l1,l2,l3⟩:=rowN_node hr i hi
 rw [(List.getElem?_eq_some_iff.1 hn).2] at hnode
 obtain ⟨n0,n1,n2,n3,n4,n5⟩:=hnode
 simp only at n0 n1 n2 n3 n4 n5
 have HR:=hidE hr
 have HCX:=hidE CX
 clear hr CX hn
 unfold maxLen at l2
 have HW : Hid (Below w.heap.size w (w.alloc (.cells #[.int .i64 5,.int .i64 x,.int .i64 0,.int .i64 0,.int .i64 0,.int .i64 0] 91))):=(Below.refl _ _).alloc (Nat.le_refl _) _
 go_enter Tryz.func65,Tryz.ntmps65
 go_wp2_with fail
 refine (HCX.out _ (rowG_below HR.out HW.out)).mono ?_
 rintro e w1 ⟨rfl,hb⟩
 have HB:=hidE hb
 obtain ⟨hc,hf⟩:=bcell hb
 clear hb
 cases oa
 all_goals
  go_wp2_with (go_at_call 63;refine (rarity_any _ _).mono ?_;rintro e w' ⟨rfl,hw⟩;subst w')
  go_ret2
  exact ⟨rfl,done HW.out HB⟩
theorem rta_6 (l : List Nd) (ao : Option Addr) (cap : Nat) (i : Nat) (x y a b : Int) (oa ob : Bool) (w : World) (hl : l.length ≤ 1000) (hi : i < l.length)
  (hr : RowG w (.slice ao l.length cap) 6 l.length (rowN l)) (hn : l[i]? = some ⟨6,x,y,0,0,0⟩) (CX : ∀ w,RowG w (.slice ao l.length cap) 6 l.length (rowN l) → Calls Tryz.prog 65 #[.slice ao l.length cap,.int .i64 x] w fun e w' => e = .returned (.tuple #[.int .i64 a,.bool oa]) ∧ Below w.heap.size w w') (CY : ∀ w,RowG w (.slice ao l.length cap) 6 l.length (rowN l) → Calls Tryz.prog 65 #[.slice ao l.length cap,.int .i64 y] w fun e w' => e = .returned (.tuple #[.int .i64 b,.bool ob]) ∧ Below w.heap.size w w') :
  Calls Tryz.prog 65 #[.slice ao l.length cap,.int .i64 (i : Int)] w fun e w' => e = .returned (.tuple #[.int .i64 (tyR 6 a b oa ob).1,.bool (tyR 6 a b oa ob).2]) ∧ Below w.heap.size w w':=by
 obtain ⟨g,off,rfl,hnode,l1,l2,l3⟩:=rowN_node hr i hi
 rw [(List.getElem?_eq_some_iff.1 hn).2] at hnode
 obtain ⟨n0,n1,n2,n3,n4,n5⟩:=hnode
 simp only at n0 n1 n2 n3 n4 n5
 have HR:=hidE hr
 have HCX:=hidE CX
 have HCY:=hidE CY
 clear hr CX CY hn
 unfold maxLen at l2
 have HW : Hid (Below w.heap.size w (w.alloc (.cells #[.int .i64 6,.int .i64 x,.int .i64 y,.int .i64 0,.int .i64 0,.int .i64 0] 91))):=(Below.refl _ _).alloc (Nat.le_refl _) _
 go_enter Tryz.func65,Tryz.ntmps65
 go_wp2_with fail
 refine (HCX.out _ (rowG_below HR.out HW.out)).mono ?_
 rintro e w1 ⟨rfl,hb⟩
 have HB:=hidE hb
 obtain ⟨hc,hf⟩:=bcell hb
 clear hb
 go_wp2_with (go_at_call 63;refine (rarity_any _ _).mono ?_;rintro e w' ⟨rfl,hw⟩;subst w')
 refine (HCY.out _ (rowG_below (rowG_below HR.out HW.out) HB.out)).mono ?_
 rintro e w2 ⟨rfl,hb⟩
 have HB:=nxt HB hb
 obtain ⟨hc,hf⟩:=rules HB
 clear hb
 cases oa
 ·cases ob
  all_goals
   go_wp2_with fail
   go_ret2
   exact ⟨rfl,done HW.out HB⟩
 ·cases ob
  ·go_wp2_with fail
   go_ret2
   exact ⟨rfl,done HW.out HB⟩
  ·cases hp : (a != 0) <;> cases hq : (a != 1) <;> cases hs : (b != 0) <;> cases ht : (b != 1)
   all_goals
    have hw : wantT 6 = 1:=by decide
    first
    |(have HX : Hid (tyR 6 a b true true = (0,false)):=(by show _ = _;unfold tyR;simp only [hw,hp,hq,hs,ht];rfl)
      clear hw
      go_wp2_with fail
      all_goals (go_ret2;exact ⟨by rw [HX.out];rfl,done HW.out HB⟩))
    |(have HX : Hid (tyR 6 a b true true = (1,true)):=(by show _ = _;unfold tyR;simp only [hw,hp,hq,hs,ht];rfl)
      clear hw
      go_wp2_with fail
      all_goals (go_ret2;exact ⟨by rw [HX.out];rfl,done HW.out HB⟩))
theorem rta_7 (l : List Nd) (ao : Option Addr) (cap : Nat) (i : Nat) (x y a b : Int) (oa ob : Bool) (w : World) (hl : l.length ≤ 1000) (hi : i < l.length)
  (hr : RowG w (.slice ao l.length cap) 6 l.length (rowN l)) (hn : l[i]? = some ⟨7,x,y,0,0,0⟩) (CX : ∀ w,RowG w (.slice ao l.length cap) 6 l.length (rowN l) → Calls Tryz.prog 65 #[.slice ao l.length cap,.int .i64 x] w fun e w' => e = .returned (.tuple #[.int .i64 a,.bool oa]) ∧ Below w.heap.size w w') (CY : ∀ w,RowG w (.slice ao l.length cap) 6 l.length (rowN l) → Calls Tryz.prog 65 #[.slice ao l.length cap,.int .i64 y] w fun e w' => e = .returned (.tuple #[.int .i64 b,.bool ob]) ∧ Below w.heap.size w w') :
  Calls Tryz.prog 65 #[.slice ao l.length cap,.int .i64 (i : Int)] w fun e w' => e = .returned (.tuple #[.int .i64 (tyR 7 a b oa ob).1,.bool (tyR 7 a b oa ob).2]) ∧ Below w.heap.size w w':=by
 obtain ⟨g,off,rfl,hnode,l1,l2,l3⟩:=rowN_node hr i hi
 rw [(List.getElem?_eq_some_iff.1 hn).2] at hnode
 obtain ⟨n0,n1,n2,n3,n4,n5⟩:=hnode
 simp only at n0 n1 n2 n3 n4 n5
 have HR:=hidE hr
 have HCX:=hidE CX
 have HCY:=hidE CY
 clear hr CX CY hn
 unfold maxLen at l2
 have HW : Hid (Below w.heap.size w (w.alloc (.cells #[.int .i64 7,.int .i64 x,.int .i64 y,.int .i64 0,.int .i64 0,.int .i64 0] 91))):=(Below.refl _ _).alloc (Nat.le_refl _) _
 go_enter Tryz.func65,Tryz.ntmps65
 go_wp2_with fail
 refine (HCX.out _ (rowG_below HR.out HW.out)).mono ?_
 rintro e w1 ⟨rfl,hb⟩
 have HB:=hidE hb
 obtain ⟨hc,hf⟩:=bcell hb
 clear hb
 go_wp2_with (go_at_call 63;refine (rarity_any _ _).mono ?_;rintro e w' ⟨rfl,hw⟩;subst w')
 refine (HCY.out _ (rowG_below (rowG_below HR.out HW.out) HB.out)).mono ?_
 rintro e w2 ⟨rfl,hb⟩
 have HB:=nxt HB hb
 obtain ⟨hc,hf⟩:=rules HB
 clear hb
 cases oa
 ·cases ob
  all_goals
   go_wp2_with fail
   go_ret2
   exact ⟨rfl,done HW.out HB⟩
 ·cases ob
  ·go_wp2_with fail
   go_ret2
   exact ⟨rfl,done HW.out HB⟩
  ·cases hp : (a != 0) <;> cases hq : (a != 1) <;> cases hs : (b != 0) <;> cases ht : (b != 1)
   all_goals
    have hw : wantT 7 = 1:=by decide
    first
    |(have HX : Hid (tyR 7 a b true true = (0,false)):=(by show _ = _;unfold tyR;simp only [hw,hp,hq,hs,ht];rfl)
      clear hw
      go_wp2_with fail
      all_goals (go_ret2;exact ⟨by rw [HX.out];rfl,done HW.out HB⟩))
    |(have HX : Hid (tyR 7 a b true true = (1,true)):=(by show _ = _;unfold tyR;simp only [hw,hp,hq,hs,ht];rfl)
      clear hw
      go_wp2_with fail
      all_goals (go_ret2;exact ⟨by rw [HX.out];rfl,done HW.out HB⟩))
theorem rta_8 (l : List Nd) (ao : Option Addr) (cap : Nat) (i : Nat) (x y a b : Int) (oa ob : Bool) (w : World) (hl : l.length ≤ 1000) (hi : i < l.length)
  (hr : RowG w (.slice ao l.length cap) 6 l.length (rowN l)) (hn : l[i]? = some ⟨8,x,y,0,0,0⟩) (CX : ∀ w,RowG w (.slice ao l.length cap) 6 l.length (rowN l) → Calls Tryz.prog 65 #[.slice ao l.length cap,.int .i64 x] w fun e w' => e = .returned (.tuple #[.int .i64 a,.bool oa]) ∧ Below w.heap.size w w') (CY : ∀ w,RowG w (.slice ao l.length cap) 6 l.length (rowN l) → Calls Tryz.prog 65 #[.slice ao l.length cap,.int .i64 y] w fun e w' => e = .returned (.tuple #[.int .i64 b,.bool ob]) ∧ Below w.heap.size w w') :
  Calls Tryz.prog 65 #[.slice ao l.length cap,.int .i64 (i : Int)] w fun e w' => e = .returned (.tuple #[.int .i64 (tyR 8 a b oa ob).1,.bool (tyR 8 a b oa ob).2]) ∧ Below w.heap.size w w':=by
 obtain ⟨g,off,rfl,hnode,l1,l2,l3⟩:=rowN_node hr i hi
 rw [(List.getElem?_eq_some_iff.1 hn).2] at hnode
 obtain ⟨n0,n1,n2,n3,n4,n5⟩:=hnode
 simp only at n0 n1 n2 n3 n4 n5
 have HR:=hidE hr
 have HCX:=hidE CX
 have HCY:=hidE CY
 clear hr CX CY hn
 unfold maxLen at l2
 have HW : Hid (Below w.heap.size w (w.alloc (.cells #[.int .i64 8,.int .i64 x,.int .i64 y,.int .i64 0,.int .i64 0,.int .i64 0] 91))):=(Below.refl _ _).alloc (Nat.le_refl _) _
 go_enter Tryz.func65,Tryz.ntmps65
 go_wp2_with fail
 refine (HCX.out _ (rowG_below HR.out HW.out)).mono ?_
 rintro e w1 ⟨rfl,hb⟩
 have HB:=hidE hb
 obtain ⟨hc,hf⟩:=bcell hb
 clear hb
 go_wp2_with (go_at_call 63;refine (rarity_any _ _).mono ?_;rintro e w' ⟨rfl,hw⟩;subst w')
 refine (HCY.out _ (rowG_below (rowG_below HR.out HW.out) HB.out)).mono ?_
 rintro e w2 ⟨rfl,hb⟩
 have HB:=nxt HB hb
 obtain ⟨hc,hf⟩:=rules HB
 clear hb
 cases oa
 ·cases ob
  all_goals
   go_wp2_with fail
   go_ret2
   exact ⟨rfl,done HW.out HB⟩
 ·cases ob
  ·go_wp2_with fail
   go_ret2
   exact ⟨rfl,done HW.out HB⟩
  ·cases hp : (a != 0) <;> cases hq : (a != 1) <;> cases hs : (b != 0) <;> cases ht : (b != 1)
   all_goals
    have hw : wantT 8 = 1:=by decide
    first
    |(have HX : Hid (tyR 8 a b true true = (0,false)):=(by show _ = _;unfold tyR;simp only [hw,hp,hq,hs,ht];rfl)
      clear hw
      go_wp2_with fail
      all_goals (go_ret2;exact ⟨by rw [HX.out];rfl,done HW.out HB⟩))
    |(have HX : Hid (tyR 8 a b true true = (1,true)):=(by show _ = _;unfold tyR;simp only [hw,hp,hq,hs,ht];rfl)
      clear hw
      go_wp2_with fail
      all_goals (go_ret2;exact ⟨by rw [HX.out];rfl,done HW.out HB⟩))
theorem rta_9 (l : List Nd) (ao : Option Addr) (cap : Nat) (i : Nat) (x y a b : Int) (oa ob : Bool) (w : World) (hl : l.length ≤ 1000) (hi : i < l.length)
  (hr : RowG w (.slice ao l.length cap) 6 l.length (rowN l)) (hn : l[i]? = some ⟨9,x,y,0,0,0⟩) (CX : ∀ w,RowG w (.slice ao l.length cap) 6 l.length (rowN l) → Calls Tryz.prog 65 #[.slice ao l.length cap,.int .i64 x] w fun e w' => e = .returned (.tuple #[.int .i64 a,.bool oa]) ∧ Below w.heap.size w w') (CY : ∀ w,RowG w (.slice ao l.length cap) 6 l.length (rowN l) → Calls Tryz.prog 65 #[.slice ao l.length cap,.int .i64 y] w fun e w' => e = .returned (.tuple #[.int .i64 b,.bool ob]) ∧ Below w.heap.size w w') :
  Calls Tryz.prog 65 #[.slice ao l.length cap,.int .i64 (i : Int)] w fun e w' => e = .returned (.tuple #[.int .i64 (tyR 9 a b oa ob).1,.bool (tyR 9 a b oa ob).2]) ∧ Below w.heap.size w w':=by
 obtain ⟨g,off,rfl,hnode,l1,l2,l3⟩:=rowN_node hr i hi
 rw [(List.getElem?_eq_some_iff.1 hn).2] at hnode
 obtain ⟨n0,n1,n2,n3,n4,n5⟩:=hnode
 simp only at n0 n1 n2 n3 n4 n5
 have HR:=hidE hr
 have HCX:=hidE CX
 have HCY:=hidE CY
 clear hr CX CY hn
 unfold maxLen at l2
 have HW : Hid (Below w.heap.size w (w.alloc (.cells #[.int .i64 9,.int .i64 x,.int .i64 y,.int .i64 0,.int .i64 0,.int .i64 0] 91))):=(Below.refl _ _).alloc (Nat.le_refl _) _
 go_enter Tryz.func65,Tryz.ntmps65
 go_wp2_with fail
 refine (HCX.out _ (rowG_below HR.out HW.out)).mono ?_
 rintro e w1 ⟨rfl,hb⟩
 have HB:=hidE hb
 obtain ⟨hc,hf⟩:=bcell hb
 clear hb
 go_wp2_with (go_at_call 63;refine (rarity_any _ _).mono ?_;rintro e w' ⟨rfl,hw⟩;subst w')
 refine (HCY.out _ (rowG_below (rowG_below HR.out HW.out) HB.out)).mono ?_
 rintro e w2 ⟨rfl,hb⟩
 have HB:=nxt HB hb
 obtain ⟨hc,hf⟩:=rules HB
 clear hb
 cases oa
 ·cases ob
  all_goals
   go_wp2_with fail
   go_ret2
   exact ⟨rfl,done HW.out HB⟩
 ·cases ob
  ·go_wp2_with fail
   go_ret2
   exact ⟨rfl,done HW.out HB⟩
  ·cases hp : (a != 0) <;> cases hq : (a != 2) <;> cases hs : (b != 0) <;> cases ht : (b != 2)
   all_goals
    have hw : wantT 9 = 2:=by decide
    first
    |(have HX : Hid (tyR 9 a b true true = (0,false)):=(by show _ = _;unfold tyR;simp only [hw,hp,hq,hs,ht];rfl)
      clear hw
      go_wp2_with fail
      all_goals (go_ret2;exact ⟨by rw [HX.out];rfl,done HW.out HB⟩))
    |(have HX : Hid (tyR 9 a b true true = (2,true)):=(by show _ = _;unfold tyR;simp only [hw,hp,hq,hs,ht];rfl)
      clear hw
      go_wp2_with fail
      all_goals (go_ret2;exact ⟨by rw [HX.out];rfl,done HW.out HB⟩))
theorem rta_10 (l : List Nd) (ao : Option Addr) (cap : Nat) (i : Nat) (x y a b : Int) (oa ob : Bool) (w : World) (hl : l.length ≤ 1000) (hi : i < l.length)
  (hr : RowG w (.slice ao l.length cap) 6 l.length (rowN l)) (hn : l[i]? = some ⟨10,x,y,0,0,0⟩) (CX : ∀ w,RowG w (.slice ao l.length cap) 6 l.length (rowN l) → Calls Tryz.prog 65 #[.slice ao l.length cap,.int .i64 x] w fun e w' => e = .returned (.tuple #[.int .i64 a,.bool oa]) ∧ Below w.heap.size w w') (CY : ∀ w,RowG w (.slice ao l.length cap) 6 l.length (rowN l) → Calls Tryz.prog 65 #[.slice ao l.length cap,.int .i64 y] w fun e w' => e = .returned (.tuple #[.int .i64 b,.bool ob]) ∧ Below w.heap.size w w') :
  Calls Tryz.prog 65 #[.slice ao l.length cap,.int .i64 (i : Int)] w fun e w' => e = .returned (.tuple #[.int .i64 (tyR 10 a b oa ob).1,.bool (tyR 10 a b oa ob).2]) ∧ Below w.heap.size w w':=by
 obtain ⟨g,off,rfl,hnode,l1,l2,l3⟩:=rowN_node hr i hi
 rw [(List.getElem?_eq_some_iff.1 hn).2] at hnode
 obtain ⟨n0,n1,n2,n3,n4,n5⟩:=hnode
 simp only at n0 n1 n2 n3 n4 n5
 have HR:=hidE hr
 have HCX:=hidE CX
 have HCY:=hidE CY
 clear hr CX CY hn
 unfold maxLen at l2
 have HW : Hid (Below w.heap.size w (w.alloc (.cells #[.int .i64 10,.int .i64 x,.int .i64 y,.int .i64 0,.int .i64 0,.int .i64 0] 91))):=(Below.refl _ _).alloc (Nat.le_refl _) _
 go_enter Tryz.func65,Tryz.ntmps65
 go_wp2_with fail
 refine (HCX.out _ (rowG_below HR.out HW.out)).mono ?_
 rintro e w1 ⟨rfl,hb⟩
 have HB:=hidE hb
 obtain ⟨hc,hf⟩:=bcell hb
 clear hb
 go_wp2_with (go_at_call 63;refine (rarity_any _ _).mono ?_;rintro e w' ⟨rfl,hw⟩;subst w')
 refine (HCY.out _ (rowG_below (rowG_below HR.out HW.out) HB.out)).mono ?_
 rintro e w2 ⟨rfl,hb⟩
 have HB:=nxt HB hb
 obtain ⟨hc,hf⟩:=rules HB
 clear hb
 cases oa
 ·cases ob
  all_goals
   go_wp2_with fail
   go_ret2
   exact ⟨rfl,done HW.out HB⟩
 ·cases ob
  ·go_wp2_with fail
   go_ret2
   exact ⟨rfl,done HW.out HB⟩
  ·cases hp : (a != 0) <;> cases hq : (a != 2) <;> cases hs : (b != 0) <;> cases ht : (b != 2)
   all_goals
    have hw : wantT 10 = 2:=by decide
    first
    |(have HX : Hid (tyR 10 a b true true = (0,false)):=(by show _ = _;unfold tyR;simp only [hw,hp,hq,hs,ht];rfl)
      clear hw
      go_wp2_with fail
      all_goals (go_ret2;exact ⟨by rw [HX.out];rfl,done HW.out HB⟩))
    |(have HX : Hid (tyR 10 a b true true = (2,true)):=(by show _ = _;unfold tyR;simp only [hw,hp,hq,hs,ht];rfl)
      clear hw
      go_wp2_with fail
      all_goals (go_ret2;exact ⟨by rw [HX.out];rfl,done HW.out HB⟩))
theorem rta_11 (l : List Nd) (ao : Option Addr) (cap : Nat) (i : Nat) (x y a b : Int) (oa ob : Bool) (w : World) (hl : l.length ≤ 1000) (hi : i < l.length)
  (hr : RowG w (.slice ao l.length cap) 6 l.length (rowN l)) (hn : l[i]? = some ⟨11,x,y,0,0,0⟩) (CX : ∀ w,RowG w (.slice ao l.length cap) 6 l.length (rowN l) → Calls Tryz.prog 65 #[.slice ao l.length cap,.int .i64 x] w fun e w' => e = .returned (.tuple #[.int .i64 a,.bool oa]) ∧ Below w.heap.size w w') (CY : ∀ w,RowG w (.slice ao l.length cap) 6 l.length (rowN l) → Calls Tryz.prog 65 #[.slice ao l.length cap,.int .i64 y] w fun e w' => e = .returned (.tuple #[.int .i64 b,.bool ob]) ∧ Below w.heap.size w w') :
  Calls Tryz.prog 65 #[.slice ao l.length cap,.int .i64 (i : Int)] w fun e w' => e = .returned (.tuple #[.int .i64 (tyR 11 a b oa ob).1,.bool (tyR 11 a b oa ob).2]) ∧ Below w.heap.size w w':=by
 obtain ⟨g,off,rfl,hnode,l1,l2,l3⟩:=rowN_node hr i hi
 rw [(List.getElem?_eq_some_iff.1 hn).2] at hnode
 obtain ⟨n0,n1,n2,n3,n4,n5⟩:=hnode
 simp only at n0 n1 n2 n3 n4 n5
 have HR:=hidE hr
 have HCX:=hidE CX
 have HCY:=hidE CY
 clear hr CX CY hn
 unfold maxLen at l2
 have HW : Hid (Below w.heap.size w (w.alloc (.cells #[.int .i64 11,.int .i64 x,.int .i64 y,.int .i64 0,.int .i64 0,.int .i64 0] 91))):=(Below.refl _ _).alloc (Nat.le_refl _) _
 go_enter Tryz.func65,Tryz.ntmps65
 go_wp2_with fail
 refine (HCX.out _ (rowG_below HR.out HW.out)).mono ?_
 rintro e w1 ⟨rfl,hb⟩
 have HB:=hidE hb
 obtain ⟨hc,hf⟩:=bcell hb
 clear hb
 go_wp2_with (go_at_call 63;refine (rarity_any _ _).mono ?_;rintro e w' ⟨rfl,hw⟩;subst w')
 refine (HCY.out _ (rowG_below (rowG_below HR.out HW.out) HB.out)).mono ?_
 rintro e w2 ⟨rfl,hb⟩
 have HB:=nxt HB hb
 obtain ⟨hc,hf⟩:=rules HB
 clear hb
 cases oa
 ·cases ob
  all_goals
   go_wp2_with fail
   go_ret2
   exact ⟨rfl,done HW.out HB⟩
 ·cases ob
  ·go_wp2_with fail
   go_ret2
   exact ⟨rfl,done HW.out HB⟩
  ·cases hp : (a != 0) <;> cases hq : (a != 1) <;> cases hs : (b != 0) <;> cases ht : (b != 1)
   all_goals
    have hw : wantT 11 = 1:=by decide
    first
    |(have HX : Hid (tyR 11 a b true true = (0,false)):=(by show _ = _;unfold tyR;simp only [hw,hp,hq,hs,ht];rfl)
      clear hw
      go_wp2_with fail
      all_goals (go_ret2;exact ⟨by rw [HX.out];rfl,done HW.out HB⟩))
    |(have HX : Hid (tyR 11 a b true true = (2,true)):=(by show _ = _;unfold tyR;simp only [hw,hp,hq,hs,ht];rfl)
      clear hw
      go_wp2_with fail
      all_goals (go_ret2;exact ⟨by rw [HX.out];rfl,done HW.out HB⟩))
theorem rta_12 (l : List Nd) (ao : Option Addr) (cap : Nat) (i : Nat) (x y a b : Int) (oa ob : Bool) (w : World) (hl : l.length ≤ 1000) (hi : i < l.length)
  (hr : RowG w (.slice ao l.length cap) 6 l.length (rowN l)) (hn : l[i]? = some ⟨12,x,y,0,0,0⟩) (CX : ∀ w,RowG w (.slice ao l.length cap) 6 l.length (rowN l) → Calls Tryz.prog 65 #[.slice ao l.length cap,.int .i64 x] w fun e w' => e = .returned (.tuple #[.int .i64 a,.bool oa]) ∧ Below w.heap.size w w') (CY : ∀ w,RowG w (.slice ao l.length cap) 6 l.length (rowN l) → Calls Tryz.prog 65 #[.slice ao l.length cap,.int .i64 y] w fun e w' => e = .returned (.tuple #[.int .i64 b,.bool ob]) ∧ Below w.heap.size w w') :
  Calls Tryz.prog 65 #[.slice ao l.length cap,.int .i64 (i : Int)] w fun e w' => e = .returned (.tuple #[.int .i64 (tyR 12 a b oa ob).1,.bool (tyR 12 a b oa ob).2]) ∧ Below w.heap.size w w':=by
 obtain ⟨g,off,rfl,hnode,l1,l2,l3⟩:=rowN_node hr i hi
 rw [(List.getElem?_eq_some_iff.1 hn).2] at hnode
 obtain ⟨n0,n1,n2,n3,n4,n5⟩:=hnode
 simp only at n0 n1 n2 n3 n4 n5
 have HR:=hidE hr
 have HCX:=hidE CX
 have HCY:=hidE CY
 clear hr CX CY hn
 unfold maxLen at l2
 have HW : Hid (Below w.heap.size w (w.alloc (.cells #[.int .i64 12,.int .i64 x,.int .i64 y,.int .i64 0,.int .i64 0,.int .i64 0] 91))):=(Below.refl _ _).alloc (Nat.le_refl _) _
 go_enter Tryz.func65,Tryz.ntmps65
 go_wp2_with fail
 refine (HCX.out _ (rowG_below HR.out HW.out)).mono ?_
 rintro e w1 ⟨rfl,hb⟩
 have HB:=hidE hb
 obtain ⟨hc,hf⟩:=bcell hb
 clear hb
 go_wp2_with (go_at_call 63;refine (rarity_any _ _).mono ?_;rintro e w' ⟨rfl,hw⟩;subst w')
 refine (HCY.out _ (rowG_below (rowG_below HR.out HW.out) HB.out)).mono ?_
 rintro e w2 ⟨rfl,hb⟩
 have HB:=nxt HB hb
 obtain ⟨hc,hf⟩:=rules HB
 clear hb
 cases oa
 ·cases ob
  all_goals
   go_wp2_with fail
   go_ret2
   exact ⟨rfl,done HW.out HB⟩
 ·cases ob
  ·go_wp2_with fail
   go_ret2
   exact ⟨rfl,done HW.out HB⟩
  ·cases hp : (a != 0) <;> cases hq : (a != 1) <;> cases hs : (b != 0) <;> cases ht : (b != 1)
   all_goals
    have hw : wantT 12 = 1:=by decide
    first
    |(have HX : Hid (tyR 12 a b true true = (0,false)):=(by show _ = _;unfold tyR;simp only [hw,hp,hq,hs,ht];rfl)
      clear hw
      go_wp2_with fail
      all_goals (go_ret2;exact ⟨by rw [HX.out];rfl,done HW.out HB⟩))
    |(have HX : Hid (tyR 12 a b true true = (2,true)):=(by show _ = _;unfold tyR;simp only [hw,hp,hq,hs,ht];rfl)
      clear hw
      go_wp2_with fail
      all_goals (go_ret2;exact ⟨by rw [HX.out];rfl,done HW.out HB⟩))
theorem tyAt_step (l : List Nd) (f i : Nat) (n : Nd) (h : l[i]? = some n) (h1 : n.op ≠ 1) (h2 : n.op ≠ 2) :
  tyAt l (f + 1) i = tyR n.op (tyAt l f n.x.toNat).1 (if ar n.op = 2 then tyAt l f n.y.toNat else tyAt l f n.x.toNat).1 (tyAt l f n.x.toNat).2 (if ar n.op = 2 then tyAt l f n.y.toNat else tyAt l f n.x.toNat).2:=by
 rw [tyAt,h]
 simp only [h1,h2,if_false]
 generalize tyAt l f n.x.toNat = a
 generalize (if ar n.op = 2 then tyAt l f n.y.toNat else a) = b
 obtain ⟨a1,a2⟩:=a
 obtain ⟨b1,b2⟩:=b
 unfold tyR
 simp only
 cases a2 <;> cases b2
 ·simp
 ·simp
 ·simp
 ·simp only [Bool.true_eq_false,or_self,if_false,Bool.and_self,Bool.not_true,Bool.false_eq_true]
  by_cases h5 : n.op = 5
  ·rw [if_pos h5,if_pos h5]
  ·rw [if_neg h5,if_neg h5]
   have e : ((a1 ≠ 0 ∧ a1 ≠ (if n.op = 4 ∨ n.op = 9 ∨ n.op = 10 then 2 else 1)) ∨ (b1 ≠ 0 ∧ b1 ≠ (if n.op = 4 ∨ n.op = 9 ∨ n.op = 10 then 2 else 1))) = (((a1 != 0) && (a1 != wantT n.op) || (b1 != 0) && (b1 != wantT n.op)) = true):=by
    unfold wantT
    simp only [Bool.or_eq_true,Bool.and_eq_true,bne_iff_ne]
   simp only [e]
   rfl
theorem rta_all (l : List Nd) (bs : List Nat) (ao : Option Addr) (cap : Nat) (hl : l.length ≤ 1000) (hg : Good l bs) :
  ∀ (i : Nat),i < l.length → ∀ (f : Nat) (w : World),i < f → RowG w (.slice ao l.length cap) 6 l.length (rowN l) →
  Calls Tryz.prog 65 #[.slice ao l.length cap,.int .i64 (i : Int)] w fun e w' => e = .returned (.tuple #[.int .i64 (tyAt l f i).1,.bool (tyAt l f i).2]) ∧ Below w.heap.size w w':=by
 intro i
 induction i using Nat.strongRecOn with
 | ind i ih =>
  intro hi f w hf hr
  obtain ⟨f,rfl⟩ : ∃ g,f = g + 1:=⟨f - 1,by omega⟩
  have hn:=List.getElem?_eq_getElem hi
  obtain ⟨ok,a0,-⟩:=good_at hg hn
  obtain ⟨p1,p2⟩:=good_part hg hn
  obtain ⟨-,q1,q2,q3,q4,q5,q6⟩:=okN_parts ok
  have hst:=tyAt_step l f i l[i] hn
  have hc1 : l[i].op = 1 → tyAt l (f + 1) i = (l[i].k,true):=fun h => by unfold tyAt;rw [hn];simp only;rw [if_pos h]
  have hc2 : l[i].op = 2 → tyAt l (f + 1) i = (1,true):=fun h => by unfold tyAt;rw [hn];simp only;rw [if_neg (by omega),if_pos h]
  generalize l[i] = n at *
  obtain ⟨op,x,y,nn,k,v⟩:=n
  simp only at *
  have unary : ∀ (o : Int),op = o → o ≠ 1 → o ≠ 2 → ar o = 1 → ∃ j : Nat,x = (j : Int) ∧ j < i ∧ y = 0 ∧ nn = 0 ∧ k = 0 ∧ v = 0 ∧ tyAt l (f + 1) i = tyR o (tyAt l f j).1 (tyAt l f j).1 (tyAt l f j).2 (tyAt l f j).2:=by
   intro o e h1 h2 ha
   subst e
   obtain ⟨x0,x1,-⟩:=p1 (by omega)
   have hh:=hst h1 h2
   rw [if_neg (by omega)] at hh
   exact ⟨x.toNat,by omega,by omega,q3 (by omega),q2 h2,(q1 h1).1,(q1 h1).2,hh⟩
  have binary : ∀ (o : Int),op = o → o ≠ 1 → o ≠ 2 → ar o = 2 → ∃ j j' : Nat,x = (j : Int) ∧ j < i ∧ y = (j' : Int) ∧ j' < i ∧ nn = 0 ∧ k = 0 ∧ v = 0 ∧ tyAt l (f + 1) i = tyR o (tyAt l f j).1 (tyAt l f j').1 (tyAt l f j).2 (tyAt l f j').2:=by
   intro o e h1 h2 ha
   subst e
   obtain ⟨x0,x1,-⟩:=p1 (by omega)
   obtain ⟨y0,y1,-⟩:=p2 ha
   have hh:=hst h1 h2
   rw [if_pos ha] at hh
   exact ⟨x.toNat,y.toNat,by omega,by omega,by omega,by omega,q2 h2,(q1 h1).1,(q1 h1).2,hh⟩
  rcases ar_op a0 with e | e | e | e | e | ⟨h6,h2⟩
  ·rw [hc1 e]
   subst e
   obtain rfl:=q2 (by decide)
   obtain rfl:=q3 (by decide)
   obtain rfl:=q4 (by decide)
   exact rta_1 l ao cap i k v w hl hi hr hn
  ·rw [hc2 e]
   subst e
   obtain ⟨rfl,rfl⟩:=q1 (by decide)
   obtain rfl:=q3 (by decide)
   obtain rfl:=q4 (by decide)
   exact rta_2 l ao cap i nn w hl hi hr hn
  ·obtain ⟨j,rfl,hj,rfl,rfl,rfl,rfl,hh⟩:=unary 3 e (by decide) (by decide) (by decide)
   subst e
   rw [hh]
   exact rta_3 l ao cap i j _ _ w hl hi hr hn (fun w hr => ih j hj (by omega) f w (by omega) hr)
  ·obtain ⟨j,rfl,hj,rfl,rfl,rfl,rfl,hh⟩:=unary 4 e (by decide) (by decide) (by decide)
   subst e
   rw [hh]
   exact rta_4 l ao cap i j _ _ w hl hi hr hn (fun w hr => ih j hj (by omega) f w (by omega) hr)
  ·obtain ⟨j,rfl,hj,rfl,rfl,rfl,rfl,hh⟩:=unary 5 e (by decide) (by decide) (by decide)
   subst e
   rw [hh]
   exact rta_5 l ao cap i j _ _ w hl hi hr hn (fun w hr => ih j hj (by omega) f w (by omega) hr)
  ·obtain ⟨j,j',rfl,hj,rfl,hj',rfl,rfl,rfl,hh⟩:=binary op rfl (by omega) (by omega) h2
   rw [hh]
   have C:=fun w hr => ih j hj (by omega) f w (by omega) hr
   have C':=fun w hr => ih j' hj' (by omega) f w (by omega) hr
   have h12 : op ≤ 12:=by
    by_cases h : op ≤ 12
    ·exact h
    ·unfold ar at h2
     rw [if_neg (by omega),if_neg (by omega),if_neg (by omega)] at h2
     omega
   clear hst hc1 hc2 unary binary hh ih p1 p2 q1 q2 q3 q4
   rcases (by omega : op = 6 ∨ op = 7 ∨ op = 8 ∨ op = 9 ∨ op = 10 ∨ op = 11 ∨ op = 12) with rfl | rfl | rfl | rfl | rfl | rfl | rfl
   ·exact rta_6 l ao cap i j j' _ _ _ _ w hl hi hr hn C C'
   ·exact rta_7 l ao cap i j j' _ _ _ _ w hl hi hr hn C C'
   ·exact rta_8 l ao cap i j j' _ _ _ _ w hl hi hr hn C C'
   ·exact rta_9 l ao cap i j j' _ _ _ _ w hl hi hr hn C C'
   ·exact rta_10 l ao cap i j j' _ _ _ _ w hl hi hr hn C C'
   ·exact rta_11 l ao cap i j j' _ _ _ _ w hl hi hr hn C C'
   ·exact rta_12 l ao cap i j j' _ _ _ _ w hl hi hr hn C C'
theorem rtype_any (l : List Nd) (bs : List Nat) (v : Value) (w : World) (hl : l.length ≤ 1000) (h0 : 0 < l.length) (hg : Good l bs) (hb : bs.getD (l.length - 1) 0 = 0) (hr : RowG w v 6 l.length (rowN l)) :
  Calls Tryz.prog 40 #[v] w fun e w' => e = .returned (.tuple #[.int .i64 (tyE l).1,.int .i64 (tyE l).2]) ∧ Below w.heap.size w w':=by
 obtain ⟨ao,cap,rfl⟩:=rowG_shape hr
 have HA:=hidE (rta_all l bs ao cap hl hg (l.length - 1) (by omega) l.length w (by omega) hr)
 have hi : ((l.length - 1 : Nat) : Int) = (l.length : Int) - 1:=by omega
 have hty:=type_is hg h0 hb
 have hz : (tyAt l l.length (l.length - 1)).2 = false → (tyAt l l.length (l.length - 1)).1 = 0:=by
  have hk:=tyAt_is hg (l.length - 1) (by omega) l.length _ (by omega) (List.getElem?_eq_getElem (by omega))
  intro h
  rw [hk] at h ⊢
  split at h
  ·cases h
  ·rename_i hh;rw [if_neg hh]
 rw [hi] at HA
 rw [hty]
 clear hi hr hty
 generalize tyAt l l.length (l.length - 1) = X at *
 obtain ⟨x1,x2⟩:=X
 simp only at HA hz ⊢
 cases x2
 ·obtain rfl:=hz rfl
  clear hz
  go_enter Tryz.func40,Tryz.ntmps40
  go_wp2_with fail
  refine HA.out.mono ?_
  rintro e w1 ⟨rfl,hb⟩
  have HB:=hidE hb
  clear hb
  go_wp2_with fail
  go_ret2
  exact ⟨rfl,HB.out⟩
 ·clear hz
  go_enter Tryz.func40,Tryz.ntmps40
  go_wp2_with fail
  refine HA.out.mono ?_
  rintro e w1 ⟨rfl,hb⟩
  have HB:=hidE hb
  clear hb
  go_wp2_with fail
  go_ret2
  exact ⟨rfl,HB.out⟩
end Go.Proofs.YteaanpdckkmjoaaGreatDoor
namespace Go.Proofs.YteaanpdckkmjoaaGreatDoor
theorem okN_pos (n : Nd) : 0 ≤ okN n:=by
 unfold okN
 repeat' split
 all_goals decide
theorem chkF_pos : ∀ (l : List Nd) (bs : List Nat),0 ≤ (chkF l bs).1
 | [],bs => by simp [chkF]
 | n :: l,bs => by
  unfold chkF
  split
  ·exact okN_pos n
  ·split
   ·show (0 : Int) ≤ 3;decide
   ·exact chkF_pos l _
theorem chkE_pos (l : List Nd) : 0 ≤ chkE l:=by
 unfold chkE
 repeat' split
 all_goals first | exact chkF_pos l [] | decide
end Go.Proofs.YteaanpdckkmjoaaGreatDoor

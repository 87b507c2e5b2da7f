/- The contract of query.leaf, over this seat's translation. Conditions: a word, or nothing; the library's tables and the fields' names lie. -/
import Derived.Test.YtcgjflamgnjhcaaGreatDoorTextVJ
import Derived.Test.YtcgjflamgnjhcaaGreatDoorWinPureJ
set_option linter.unusedVariables false
set_option linter.unusedSimpArgs false
set_option maxRecDepth 100000
set_option maxHeartbeats 8000000
namespace Go.Proofs.YtcgjflamgnjhcaaGreatDoor
open Go.ChangeShapes Go.WideShapes Go.ChangeAt Go.RowKit
structure TabQ (w:World):Prop where
 t:Tabs w
 f0:w.cell? ⟨3,0,none⟩=some (.string ⟨#[116]⟩)
 f1:w.cell? ⟨3,1,none⟩=some (.string ⟨#[107]⟩)
 f2:w.cell? ⟨3,2,none⟩=some (.string ⟨#[97]⟩)
 f3:w.cell? ⟨3,3,none⟩=some (.string ⟨#[98]⟩)
theorem TabQ.below {w w':World} (h:TabQ w) (hb:Below w.heap.size w w'):TabQ w':=by
 have hz:=h.t.sz;have hc:∀ j,w'.cell? ⟨3,j,none⟩=w.cell? ⟨3,j,none⟩:=fun j=>hb.cell (p:=⟨3,j,none⟩) (by show 3 < w.heap.size;omega)
 exact ⟨h.t.below hb,(hc 0).trans h.f0,(hc 1).trans h.f1,(hc 2).trans h.f2,(hc 3).trans h.f3⟩
def nd0:Nd:=⟨0,0,0,0,0,0⟩
def dj (s:ByteArray):Nd×Bool:=match fT s with
 | some n=>(n,true)
 | none=>(nd0,false)
theorem tl_other' {a b:ByteArray} (h:a≠b):(a.toList == b.toList)=false:=by
 rw [beq_eq_false_iff_ne];intro e
 apply h
 rw [Lib.toList_data,Lib.toList_data] at e;cases a;cases b;simp at e;rw [e]
theorem beq_lit {s t:ByteArray}:(s.toList == t.toList)=decide (s=t):=by
 by_cases h:s=t
 ·subst h;simp
 ·rw [tl_other' h];simp [h]
theorem leaf_f0 (s:ByteArray) (w:World) (ht:TabQ w)  (h0:(s.toList == [116])=true) :
  Calls Tryz.prog 210 #[.string s] w fun e w'=>e=.returned (.tuple #[fV ⟨2,0,0,0,0,0⟩,.bool true])∧Below w.heap.size w w':=by
 have BA:=aa (aj w (.cells #[.int .i64 0,.int .i64 0,.int .i64 0,.int .i64 0,.int .i64 0,.int .i64 0] 153));have BZ:=aa (az w [.int .i64 0,.int .i64 0,.int .i64 0,.int .i64 0,.int .i64 0,.int .i64 0] 153);have T0:=aa (ht.below BA.out);have i0:∀ w,(Instr.index 264 (.agg #[.string ⟨#[116]⟩,.string ⟨#[107]⟩,.string ⟨#[97]⟩,.string ⟨#[98]⟩]) (.int .i64 0)).run Tryz.prog w=.ok (.string ⟨#[116]⟩) w:=fun _=>by kernel_rfl
 have i1:∀ w,(Instr.index 264 (.agg #[.string ⟨#[116]⟩,.string ⟨#[107]⟩,.string ⟨#[97]⟩,.string ⟨#[98]⟩]) (.int .i64 1)).run Tryz.prog w=.ok (.string ⟨#[107]⟩) w:=fun _=>by kernel_rfl
 have i2:∀ w,(Instr.index 264 (.agg #[.string ⟨#[116]⟩,.string ⟨#[107]⟩,.string ⟨#[97]⟩,.string ⟨#[98]⟩]) (.int .i64 2)).run Tryz.prog w=.ok (.string ⟨#[97]⟩) w:=fun _=>by kernel_rfl
 have i3:∀ w,(Instr.index 264 (.agg #[.string ⟨#[116]⟩,.string ⟨#[107]⟩,.string ⟨#[97]⟩,.string ⟨#[98]⟩]) (.int .i64 3)).run Tryz.prog w=.ok (.string ⟨#[98]⟩) w:=fun _=>by kernel_rfl
 have g0:=T0.out.f0;have g1:=T0.out.f1;have g2:=T0.out.f2;have g3:=T0.out.f3;have hz:=ht.t.sz;have hz0:3 < w.heap.size:=by omega
 clear ht
 go_enter Tryz.func210,Tryz.ntmps210
 go_wp2_with fail
 go_loop [11] (fun i=>∃ j:Nat,j≤0∧i=.int .i64 j) (fun i=>4 - (intOf i).toNat)
 case atStart=>exact ⟨0,by omega,rfl⟩
 case round =>
  obtain ⟨j,hj,rfl⟩:=hrel;have jj:j=0:=by omega
  clear hj
  rcases jj with rfl
  ·go_wp2_with fail;exact bodyPost_ret (v:=.tuple #[.agg #[.int .i64 2,.int .i64 0,.int .i64 0,.int .i64 0,.int .i64 0,.int .i64 0],.bool true]) (by simp [results,Tryz.results210,go_sem]) rfl ⟨rfl,(Below.refl _ _).alloc (Nat.le_refl _) _⟩
theorem leaf_f1 (s:ByteArray) (w:World) (ht:TabQ w) (h0:(s.toList == [116])=false) (h1:(s.toList == [107])=true) :
  Calls Tryz.prog 210 #[.string s] w fun e w'=>e=.returned (.tuple #[fV ⟨2,0,0,1,0,0⟩,.bool true])∧Below w.heap.size w w':=by
 have BA:=aa (aj w (.cells #[.int .i64 0,.int .i64 0,.int .i64 0,.int .i64 0,.int .i64 0,.int .i64 0] 153));have BZ:=aa (az w [.int .i64 0,.int .i64 0,.int .i64 0,.int .i64 0,.int .i64 0,.int .i64 0] 153);have T0:=aa (ht.below BA.out);have i0:∀ w,(Instr.index 264 (.agg #[.string ⟨#[116]⟩,.string ⟨#[107]⟩,.string ⟨#[97]⟩,.string ⟨#[98]⟩]) (.int .i64 0)).run Tryz.prog w=.ok (.string ⟨#[116]⟩) w:=fun _=>by kernel_rfl
 have i1:∀ w,(Instr.index 264 (.agg #[.string ⟨#[116]⟩,.string ⟨#[107]⟩,.string ⟨#[97]⟩,.string ⟨#[98]⟩]) (.int .i64 1)).run Tryz.prog w=.ok (.string ⟨#[107]⟩) w:=fun _=>by kernel_rfl
 have i2:∀ w,(Instr.index 264 (.agg #[.string ⟨#[116]⟩,.string ⟨#[107]⟩,.string ⟨#[97]⟩,.string ⟨#[98]⟩]) (.int .i64 2)).run Tryz.prog w=.ok (.string ⟨#[97]⟩) w:=fun _=>by kernel_rfl
 have i3:∀ w,(Instr.index 264 (.agg #[.string ⟨#[116]⟩,.string ⟨#[107]⟩,.string ⟨#[97]⟩,.string ⟨#[98]⟩]) (.int .i64 3)).run Tryz.prog w=.ok (.string ⟨#[98]⟩) w:=fun _=>by kernel_rfl
 have g0:=T0.out.f0;have g1:=T0.out.f1;have g2:=T0.out.f2;have g3:=T0.out.f3;have hz:=ht.t.sz;have hz0:3 < w.heap.size:=by omega
 clear ht
 go_enter Tryz.func210,Tryz.ntmps210
 go_wp2_with fail
 go_loop [11] (fun i=>∃ j:Nat,j≤1∧i=.int .i64 j) (fun i=>4 - (intOf i).toNat)
 case atStart=>exact ⟨0,by omega,rfl⟩
 case round =>
  obtain ⟨j,hj,rfl⟩:=hrel;have jj:j=0∨j=1:=by omega
  clear hj
  rcases jj with rfl | rfl
  ·go_wp2_with fail
   go_round
   case rel=>exact ⟨1,by omega,rfl⟩
   case measure=>simp [intOf]
  ·go_wp2_with fail;exact bodyPost_ret (v:=.tuple #[.agg #[.int .i64 2,.int .i64 0,.int .i64 0,.int .i64 1,.int .i64 0,.int .i64 0],.bool true]) (by simp [results,Tryz.results210,go_sem]) rfl ⟨rfl,(Below.refl _ _).alloc (Nat.le_refl _) _⟩
theorem leaf_f2 (s:ByteArray) (w:World) (ht:TabQ w) (h0:(s.toList == [116])=false) (h1:(s.toList == [107])=false) (h2:(s.toList == [97])=true) :
  Calls Tryz.prog 210 #[.string s] w fun e w'=>e=.returned (.tuple #[fV ⟨2,0,0,2,0,0⟩,.bool true])∧Below w.heap.size w w':=by
 have BA:=aa (aj w (.cells #[.int .i64 0,.int .i64 0,.int .i64 0,.int .i64 0,.int .i64 0,.int .i64 0] 153));have BZ:=aa (az w [.int .i64 0,.int .i64 0,.int .i64 0,.int .i64 0,.int .i64 0,.int .i64 0] 153);have T0:=aa (ht.below BA.out);have i0:∀ w,(Instr.index 264 (.agg #[.string ⟨#[116]⟩,.string ⟨#[107]⟩,.string ⟨#[97]⟩,.string ⟨#[98]⟩]) (.int .i64 0)).run Tryz.prog w=.ok (.string ⟨#[116]⟩) w:=fun _=>by kernel_rfl
 have i1:∀ w,(Instr.index 264 (.agg #[.string ⟨#[116]⟩,.string ⟨#[107]⟩,.string ⟨#[97]⟩,.string ⟨#[98]⟩]) (.int .i64 1)).run Tryz.prog w=.ok (.string ⟨#[107]⟩) w:=fun _=>by kernel_rfl
 have i2:∀ w,(Instr.index 264 (.agg #[.string ⟨#[116]⟩,.string ⟨#[107]⟩,.string ⟨#[97]⟩,.string ⟨#[98]⟩]) (.int .i64 2)).run Tryz.prog w=.ok (.string ⟨#[97]⟩) w:=fun _=>by kernel_rfl
 have i3:∀ w,(Instr.index 264 (.agg #[.string ⟨#[116]⟩,.string ⟨#[107]⟩,.string ⟨#[97]⟩,.string ⟨#[98]⟩]) (.int .i64 3)).run Tryz.prog w=.ok (.string ⟨#[98]⟩) w:=fun _=>by kernel_rfl
 have g0:=T0.out.f0;have g1:=T0.out.f1;have g2:=T0.out.f2;have g3:=T0.out.f3;have hz:=ht.t.sz;have hz0:3 < w.heap.size:=by omega
 clear ht
 go_enter Tryz.func210,Tryz.ntmps210
 go_wp2_with fail
 go_loop [11] (fun i=>∃ j:Nat,j≤2∧i=.int .i64 j) (fun i=>4 - (intOf i).toNat)
 case atStart=>exact ⟨0,by omega,rfl⟩
 case round =>
  obtain ⟨j,hj,rfl⟩:=hrel;have jj:j=0∨j=1∨j=2:=by omega
  clear hj
  rcases jj with rfl | rfl | rfl
  ·go_wp2_with fail
   go_round
   case rel=>exact ⟨1,by omega,rfl⟩
   case measure=>simp [intOf]
  ·go_wp2_with fail
   go_round
   case rel=>exact ⟨2,by omega,rfl⟩
   case measure=>simp [intOf]
  ·go_wp2_with fail;exact bodyPost_ret (v:=.tuple #[.agg #[.int .i64 2,.int .i64 0,.int .i64 0,.int .i64 2,.int .i64 0,.int .i64 0],.bool true]) (by simp [results,Tryz.results210,go_sem]) rfl ⟨rfl,(Below.refl _ _).alloc (Nat.le_refl _) _⟩
theorem leaf_f3 (s:ByteArray) (w:World) (ht:TabQ w) (h0:(s.toList == [116])=false) (h1:(s.toList == [107])=false) (h2:(s.toList == [97])=false) (h3:(s.toList == [98])=true) :
  Calls Tryz.prog 210 #[.string s] w fun e w'=>e=.returned (.tuple #[fV ⟨2,0,0,3,0,0⟩,.bool true])∧Below w.heap.size w w':=by
 have BA:=aa (aj w (.cells #[.int .i64 0,.int .i64 0,.int .i64 0,.int .i64 0,.int .i64 0,.int .i64 0] 153));have BZ:=aa (az w [.int .i64 0,.int .i64 0,.int .i64 0,.int .i64 0,.int .i64 0,.int .i64 0] 153);have T0:=aa (ht.below BA.out);have i0:∀ w,(Instr.index 264 (.agg #[.string ⟨#[116]⟩,.string ⟨#[107]⟩,.string ⟨#[97]⟩,.string ⟨#[98]⟩]) (.int .i64 0)).run Tryz.prog w=.ok (.string ⟨#[116]⟩) w:=fun _=>by kernel_rfl
 have i1:∀ w,(Instr.index 264 (.agg #[.string ⟨#[116]⟩,.string ⟨#[107]⟩,.string ⟨#[97]⟩,.string ⟨#[98]⟩]) (.int .i64 1)).run Tryz.prog w=.ok (.string ⟨#[107]⟩) w:=fun _=>by kernel_rfl
 have i2:∀ w,(Instr.index 264 (.agg #[.string ⟨#[116]⟩,.string ⟨#[107]⟩,.string ⟨#[97]⟩,.string ⟨#[98]⟩]) (.int .i64 2)).run Tryz.prog w=.ok (.string ⟨#[97]⟩) w:=fun _=>by kernel_rfl
 have i3:∀ w,(Instr.index 264 (.agg #[.string ⟨#[116]⟩,.string ⟨#[107]⟩,.string ⟨#[97]⟩,.string ⟨#[98]⟩]) (.int .i64 3)).run Tryz.prog w=.ok (.string ⟨#[98]⟩) w:=fun _=>by kernel_rfl
 have g0:=T0.out.f0;have g1:=T0.out.f1;have g2:=T0.out.f2;have g3:=T0.out.f3;have hz:=ht.t.sz;have hz0:3 < w.heap.size:=by omega
 clear ht
 go_enter Tryz.func210,Tryz.ntmps210
 go_wp2_with fail
 go_loop [11] (fun i=>∃ j:Nat,j≤3∧i=.int .i64 j) (fun i=>4 - (intOf i).toNat)
 case atStart=>exact ⟨0,by omega,rfl⟩
 case round =>
  obtain ⟨j,hj,rfl⟩:=hrel;have jj:j=0∨j=1∨j=2∨j=3:=by omega
  clear hj
  rcases jj with rfl | rfl | rfl | rfl
  ·go_wp2_with fail
   go_round
   case rel=>exact ⟨1,by omega,rfl⟩
   case measure=>simp [intOf]
  ·go_wp2_with fail
   go_round
   case rel=>exact ⟨2,by omega,rfl⟩
   case measure=>simp [intOf]
  ·go_wp2_with fail
   go_round
   case rel=>exact ⟨3,by omega,rfl⟩
   case measure=>simp [intOf]
  ·go_wp2_with fail;exact bodyPost_ret (v:=.tuple #[.agg #[.int .i64 2,.int .i64 0,.int .i64 0,.int .i64 3,.int .i64 0,.int .i64 0],.bool true]) (by simp [results,Tryz.results210,go_sem]) rfl ⟨rfl,(Below.refl _ _).alloc (Nat.le_refl _) _⟩
theorem mY (s:ByteArray) (w:World) (ht:TabQ w) (h0:(s.toList == [116])=false) (h1:(s.toList == [107])=false) (h2:(s.toList == [97])=false) (h3:(s.toList == [98])=false) (k n:Int) (hp:∀ w,Tabs w→Calls Tryz.prog 215 #[.string s] w fun e w'=>e=.returned (.tuple #[.agg #[.int .i64 k,.int .i64 n],.nilIface])∧Below w.heap.size w w') :
  Calls Tryz.prog 210 #[.string s] w fun e w'=>e=.returned (.tuple #[fV ⟨1,0,0,0,k,n⟩,.bool true])∧Below w.heap.size w w':=by
 have BA:=aa (aj w (.cells #[.int .i64 0,.int .i64 0,.int .i64 0,.int .i64 0,.int .i64 0,.int .i64 0] 153));have BZ:=aa (az w [.int .i64 0,.int .i64 0,.int .i64 0,.int .i64 0,.int .i64 0,.int .i64 0] 153);have T0:=aa (ht.below BA.out);have i0:∀ w,(Instr.index 264 (.agg #[.string ⟨#[116]⟩,.string ⟨#[107]⟩,.string ⟨#[97]⟩,.string ⟨#[98]⟩]) (.int .i64 0)).run Tryz.prog w=.ok (.string ⟨#[116]⟩) w:=fun _=>by kernel_rfl
 have i1:∀ w,(Instr.index 264 (.agg #[.string ⟨#[116]⟩,.string ⟨#[107]⟩,.string ⟨#[97]⟩,.string ⟨#[98]⟩]) (.int .i64 1)).run Tryz.prog w=.ok (.string ⟨#[107]⟩) w:=fun _=>by kernel_rfl
 have i2:∀ w,(Instr.index 264 (.agg #[.string ⟨#[116]⟩,.string ⟨#[107]⟩,.string ⟨#[97]⟩,.string ⟨#[98]⟩]) (.int .i64 2)).run Tryz.prog w=.ok (.string ⟨#[97]⟩) w:=fun _=>by kernel_rfl
 have i3:∀ w,(Instr.index 264 (.agg #[.string ⟨#[116]⟩,.string ⟨#[107]⟩,.string ⟨#[97]⟩,.string ⟨#[98]⟩]) (.int .i64 3)).run Tryz.prog w=.ok (.string ⟨#[98]⟩) w:=fun _=>by kernel_rfl
 have g0:=T0.out.f0;have g1:=T0.out.f1;have g2:=T0.out.f2;have g3:=T0.out.f3;have hz:=ht.t.sz;have hz0:3 < w.heap.size:=by omega
 clear ht
 go_enter Tryz.func210,Tryz.ntmps210
 go_wp2_with fail
 go_loop [11] (fun i=>∃ j:Nat,j≤4∧i=.int .i64 j) (fun i=>4 - (intOf i).toNat)
 case atStart=>exact ⟨0,by omega,rfl⟩
 case round =>
  obtain ⟨j,hj,rfl⟩:=hrel;have jj:j=0∨j=1∨j=2∨j=3∨j=4:=by omega
  clear hj
  rcases jj with rfl | rfl | rfl | rfl | rfl
  ·go_wp2_with fail
   go_round
   case rel=>exact ⟨1,by omega,rfl⟩
   case measure=>simp [intOf]
  ·go_wp2_with fail
   go_round
   case rel=>exact ⟨2,by omega,rfl⟩
   case measure=>simp [intOf]
  ·go_wp2_with fail
   go_round
   case rel=>exact ⟨3,by omega,rfl⟩
   case measure=>simp [intOf]
  ·go_wp2_with fail
   go_round
   case rel=>exact ⟨4,by omega,rfl⟩
   case measure=>simp [intOf]
  ·clear i0 i1 i2 i3 g0 g1 g2 g3;go_wp2_with fail;refine (hp _ T0.out.t).mono ?_;rintro e w1 ⟨rfl,hb⟩;have B1:=aa (BA.out.trans (hb.mono BA.out.size));have T1:=aa (T0.out.below hb);have Z1:=aa (ai BZ.out hb BZ.out.lt);clear hb;have hw1:w.heap.size < w1.heap.size:=Z1.out.lt;have z0:=Z1.out.c 0 (by simp);have y0:=Z1.out.fz 0;have z1:=Z1.out.c 1 (by simp);have y1:=Z1.out.fz 1;have z2:=Z1.out.c 2 (by simp);have y2:=Z1.out.fz 2;have z3:=Z1.out.c 3 (by simp);have y3:=Z1.out.fz 3;have z4:=Z1.out.c 4 (by simp);have y4:=Z1.out.fz 4;have z5:=Z1.out.c 5 (by simp);have y5:=Z1.out.fz 5;simp only [List.getElem?_cons_zero,List.getElem?_cons_succ] at z0 z1 z2 z3 z4 z5;have S8:=aa (show BlkAt ((((((w1.setCell ⟨w.heap.size,0,none⟩ (.int .i64 1)).setCell ⟨w.heap.size,1,none⟩ (.int .i64 0)).setCell ⟨w.heap.size,2,none⟩ (.int .i64 0)).setCell ⟨w.heap.size,3,none⟩ (.int .i64 0)).setCell ⟨w.heap.size,4,none⟩ (.int .i64 k)).setCell ⟨w.heap.size,5,none⟩ (.int .i64 n)) w.heap.size [.int .i64 1,.int .i64 0,.int .i64 0,.int .i64 0,.int .i64 k,.int .i64 n] from by have q:=(ay (ay (ay (ay (ay (ay Z1.out 0 (.int .i64 1) (by simp)) 1 (.int .i64 0) (by simp)) 2 (.int .i64 0) (by simp)) 3 (.int .i64 0) (by simp)) 4 (.int .i64 k) (by simp)) 5 (.int .i64 n) (by simp));simp only [List.set] at q;exact q);have B8:Hid (Below w.heap.size w ((((((w1.setCell ⟨w.heap.size,0,none⟩ (.int .i64 1)).setCell ⟨w.heap.size,1,none⟩ (.int .i64 0)).setCell ⟨w.heap.size,2,none⟩ (.int .i64 0)).setCell ⟨w.heap.size,3,none⟩ (.int .i64 0)).setCell ⟨w.heap.size,4,none⟩ (.int .i64 k)).setCell ⟨w.heap.size,5,none⟩ (.int .i64 n))):=((((((B1.out.setCell (p:=⟨w.heap.size,0,none⟩) (Nat.le_refl _) (.int .i64 1)).setCell (p:=⟨w.heap.size,1,none⟩) (Nat.le_refl _) (.int .i64 0)).setCell (p:=⟨w.heap.size,2,none⟩) (Nat.le_refl _) (.int .i64 0)).setCell (p:=⟨w.heap.size,3,none⟩) (Nat.le_refl _) (.int .i64 0)).setCell (p:=⟨w.heap.size,4,none⟩) (Nat.le_refl _) (.int .i64 k)).setCell (p:=⟨w.heap.size,5,none⟩) (Nat.le_refl _) (.int .i64 n));go_wp2_with fail;generalize ((((((w1.setCell ⟨w.heap.size,0,none⟩ (.int .i64 1)).setCell ⟨w.heap.size,1,none⟩ (.int .i64 0)).setCell ⟨w.heap.size,2,none⟩ (.int .i64 0)).setCell ⟨w.heap.size,3,none⟩ (.int .i64 0)).setCell ⟨w.heap.size,4,none⟩ (.int .i64 k)).setCell ⟨w.heap.size,5,none⟩ (.int .i64 n))=wz at *;have BX:=aa (aj wz (.cells #[.int .i64 k,.int .i64 n] 41));have S9:=aa (ai S8.out BX.out S8.out.lt);have B9:=aa (B8.out.trans (BX.out.mono B8.out.size));generalize wz.alloc (.cells #[.int .i64 k,.int .i64 n] 41)=wy at *;have s0:=S9.out.c 0 (by simp);have s1:=S9.out.c 1 (by simp);have s2:=S9.out.c 2 (by simp);have s3:=S9.out.c 3 (by simp);have s4:=S9.out.c 4 (by simp);have s5:=S9.out.c 5 (by simp);simp only [List.getElem?_cons_zero,List.getElem?_cons_succ] at s0 s1 s2 s3 s4 s5;exact bodyPost_ret (v:=.tuple #[.agg #[.int .i64 1,.int .i64 0,.int .i64 0,.int .i64 0,.int .i64 k,.int .i64 n],.bool true]) (by simp [results,Tryz.results210,go_sem,s0,s1,s2,s3,s4,s5]) rfl ⟨rfl,B9.out⟩
theorem leaf_n (s:ByteArray) (w:World) (ht:TabQ w) (h0:(s.toList == [116])=false) (h1:(s.toList == [107])=false) (h2:(s.toList == [97])=false) (h3:(s.toList == [98])=false) (n:Int) (hn0:-1000000000≤n) (hn1:n≤1000000000) (hp:∀ w,Tabs w→Calls Tryz.prog 215 #[.string s] w fun e w'=>e=.returned (.tuple #[.agg #[.int .i64 0,.int .i64 0],.iface 93 (.int .i64 4)])∧Below w.heap.size w w') (hq:∀ w,Tabs w→Calls Tryz.prog 151 #[.string s,.int .i64 1000000000] w fun e w'=>e=.returned (.tuple #[.int .i64 n,.bool true])∧Below w.heap.size w w') :
  Calls Tryz.prog 210 #[.string s] w fun e w'=>e=.returned (.tuple #[fV ⟨1,0,0,0,1,n⟩,.bool true])∧Below w.heap.size w w':=by
 have BA:=aa (aj w (.cells #[.int .i64 0,.int .i64 0,.int .i64 0,.int .i64 0,.int .i64 0,.int .i64 0] 153));have BZ:=aa (az w [.int .i64 0,.int .i64 0,.int .i64 0,.int .i64 0,.int .i64 0,.int .i64 0] 153);have T0:=aa (ht.below BA.out);have i0:∀ w,(Instr.index 264 (.agg #[.string ⟨#[116]⟩,.string ⟨#[107]⟩,.string ⟨#[97]⟩,.string ⟨#[98]⟩]) (.int .i64 0)).run Tryz.prog w=.ok (.string ⟨#[116]⟩) w:=fun _=>by kernel_rfl
 have i1:∀ w,(Instr.index 264 (.agg #[.string ⟨#[116]⟩,.string ⟨#[107]⟩,.string ⟨#[97]⟩,.string ⟨#[98]⟩]) (.int .i64 1)).run Tryz.prog w=.ok (.string ⟨#[107]⟩) w:=fun _=>by kernel_rfl
 have i2:∀ w,(Instr.index 264 (.agg #[.string ⟨#[116]⟩,.string ⟨#[107]⟩,.string ⟨#[97]⟩,.string ⟨#[98]⟩]) (.int .i64 2)).run Tryz.prog w=.ok (.string ⟨#[97]⟩) w:=fun _=>by kernel_rfl
 have i3:∀ w,(Instr.index 264 (.agg #[.string ⟨#[116]⟩,.string ⟨#[107]⟩,.string ⟨#[97]⟩,.string ⟨#[98]⟩]) (.int .i64 3)).run Tryz.prog w=.ok (.string ⟨#[98]⟩) w:=fun _=>by kernel_rfl
 have g0:=T0.out.f0;have g1:=T0.out.f1;have g2:=T0.out.f2;have g3:=T0.out.f3;have hz:=ht.t.sz;have hz0:3 < w.heap.size:=by omega
 clear ht
 go_enter Tryz.func210,Tryz.ntmps210
 go_wp2_with fail
 go_loop [11] (fun i=>∃ j:Nat,j≤4∧i=.int .i64 j) (fun i=>4 - (intOf i).toNat)
 case atStart=>exact ⟨0,by omega,rfl⟩
 case round =>
  obtain ⟨j,hj,rfl⟩:=hrel;have jj:j=0∨j=1∨j=2∨j=3∨j=4:=by omega
  clear hj
  rcases jj with rfl | rfl | rfl | rfl | rfl
  ·go_wp2_with fail
   go_round
   case rel=>exact ⟨1,by omega,rfl⟩
   case measure=>simp [intOf]
  ·go_wp2_with fail
   go_round
   case rel=>exact ⟨2,by omega,rfl⟩
   case measure=>simp [intOf]
  ·go_wp2_with fail
   go_round
   case rel=>exact ⟨3,by omega,rfl⟩
   case measure=>simp [intOf]
  ·go_wp2_with fail
   go_round
   case rel=>exact ⟨4,by omega,rfl⟩
   case measure=>simp [intOf]
  ·clear i0 i1 i2 i3 g0 g1 g2 g3;go_wp2_with fail;refine (hp _ T0.out.t).mono ?_;rintro e w1 ⟨rfl,hb⟩;have B1:=aa (BA.out.trans (hb.mono BA.out.size));have T1:=aa (T0.out.below hb);have Z1:=aa (ai BZ.out hb BZ.out.lt);clear hb;have BX:=aa (aj w1 (.cells #[.int .i64 0,.int .i64 0] 41));have B2:=aa (B1.out.trans (BX.out.mono B1.out.size));have T2:=aa (T1.out.below BX.out);have Z2:=aa (ai Z1.out BX.out Z1.out.lt);go_wp2_with fail;refine (hq _ T2.out.t).mono ?_;rintro e w3 ⟨rfl,hb⟩;have B3:=aa (B2.out.trans (hb.mono B2.out.size));have T3:=aa (T2.out.below hb);have Z3:=aa (ai Z2.out hb Z2.out.lt);clear hb;have NU:=aa (bK n w3);rw [(oR n hn0 hn1).1,(oR n hn0 hn1).2] at NU;go_wp2_with fail;refine NU.out.mono ?_;rintro e w4 ⟨rfl,hb⟩;have B4:=aa (B3.out.trans (hb.mono B3.out.size));have Z4:=aa (ai Z3.out hb Z3.out.lt);clear hb NU;have z0:=Z4.out.c 0 (by simp);have y0:=Z4.out.fz 0;have z1:=Z4.out.c 1 (by simp);have y1:=Z4.out.fz 1;have z2:=Z4.out.c 2 (by simp);have y2:=Z4.out.fz 2;have z3:=Z4.out.c 3 (by simp);have y3:=Z4.out.fz 3;have z4:=Z4.out.c 4 (by simp);have y4:=Z4.out.fz 4;have z5:=Z4.out.c 5 (by simp);have y5:=Z4.out.fz 5;simp only [List.getElem?_cons_zero,List.getElem?_cons_succ] at z0 z1 z2 z3 z4 z5;have S8:=aa (show BlkAt ((((((w4.setCell ⟨w.heap.size,0,none⟩ (.int .i64 1)).setCell ⟨w.heap.size,1,none⟩ (.int .i64 0)).setCell ⟨w.heap.size,2,none⟩ (.int .i64 0)).setCell ⟨w.heap.size,3,none⟩ (.int .i64 0)).setCell ⟨w.heap.size,4,none⟩ (.int .i64 1)).setCell ⟨w.heap.size,5,none⟩ (.int .i64 n)) w.heap.size [.int .i64 1,.int .i64 0,.int .i64 0,.int .i64 0,.int .i64 1,.int .i64 n] from by have q:=(ay (ay (ay (ay (ay (ay Z4.out 0 (.int .i64 1) (by simp)) 1 (.int .i64 0) (by simp)) 2 (.int .i64 0) (by simp)) 3 (.int .i64 0) (by simp)) 4 (.int .i64 1) (by simp)) 5 (.int .i64 n) (by simp));simp only [List.set] at q;exact q);have B8:Hid (Below w.heap.size w ((((((w4.setCell ⟨w.heap.size,0,none⟩ (.int .i64 1)).setCell ⟨w.heap.size,1,none⟩ (.int .i64 0)).setCell ⟨w.heap.size,2,none⟩ (.int .i64 0)).setCell ⟨w.heap.size,3,none⟩ (.int .i64 0)).setCell ⟨w.heap.size,4,none⟩ (.int .i64 1)).setCell ⟨w.heap.size,5,none⟩ (.int .i64 n))):=((((((B4.out.setCell (p:=⟨w.heap.size,0,none⟩) (Nat.le_refl _) (.int .i64 1)).setCell (p:=⟨w.heap.size,1,none⟩) (Nat.le_refl _) (.int .i64 0)).setCell (p:=⟨w.heap.size,2,none⟩) (Nat.le_refl _) (.int .i64 0)).setCell (p:=⟨w.heap.size,3,none⟩) (Nat.le_refl _) (.int .i64 0)).setCell (p:=⟨w.heap.size,4,none⟩) (Nat.le_refl _) (.int .i64 1)).setCell (p:=⟨w.heap.size,5,none⟩) (Nat.le_refl _) (.int .i64 n));go_wp2_with fail;generalize ((((((w4.setCell ⟨w.heap.size,0,none⟩ (.int .i64 1)).setCell ⟨w.heap.size,1,none⟩ (.int .i64 0)).setCell ⟨w.heap.size,2,none⟩ (.int .i64 0)).setCell ⟨w.heap.size,3,none⟩ (.int .i64 0)).setCell ⟨w.heap.size,4,none⟩ (.int .i64 1)).setCell ⟨w.heap.size,5,none⟩ (.int .i64 n))=wz at *;have S9:=S8;have B9:=B8
   have s0:=S9.out.c 0 (by simp);have s1:=S9.out.c 1 (by simp);have s2:=S9.out.c 2 (by simp);have s3:=S9.out.c 3 (by simp);have s4:=S9.out.c 4 (by simp);have s5:=S9.out.c 5 (by simp);simp only [List.getElem?_cons_zero,List.getElem?_cons_succ] at s0 s1 s2 s3 s4 s5;exact bodyPost_ret (v:=.tuple #[.agg #[.int .i64 1,.int .i64 0,.int .i64 0,.int .i64 0,.int .i64 1,.int .i64 n],.bool true]) (by simp [results,Tryz.results210,go_sem,s0,s1,s2,s3,s4,s5]) rfl ⟨rfl,B9.out⟩
theorem pE (s:ByteArray) (w:World) (ht:TabQ w) (h0:(s.toList == [116])=false) (h1:(s.toList == [107])=false) (h2:(s.toList == [97])=false) (h3:(s.toList == [98])=false) (hp:∀ w,Tabs w→Calls Tryz.prog 215 #[.string s] w fun e w'=>e=.returned (.tuple #[.agg #[.int .i64 0,.int .i64 0],.iface 93 (.int .i64 4)])∧Below w.heap.size w w') (hq:∀ w,Tabs w→Calls Tryz.prog 151 #[.string s,.int .i64 1000000000] w fun e w'=>e=.returned (.tuple #[.int .i64 0,.bool false])∧Below w.heap.size w w') :
  Calls Tryz.prog 210 #[.string s] w fun e w'=>e=.returned (.tuple #[fV nd0,.bool false])∧Below w.heap.size w w':=by
 have BA:=aa (aj w (.cells #[.int .i64 0,.int .i64 0,.int .i64 0,.int .i64 0,.int .i64 0,.int .i64 0] 153));have BZ:=aa (az w [.int .i64 0,.int .i64 0,.int .i64 0,.int .i64 0,.int .i64 0,.int .i64 0] 153);have T0:=aa (ht.below BA.out);have i0:∀ w,(Instr.index 264 (.agg #[.string ⟨#[116]⟩,.string ⟨#[107]⟩,.string ⟨#[97]⟩,.string ⟨#[98]⟩]) (.int .i64 0)).run Tryz.prog w=.ok (.string ⟨#[116]⟩) w:=fun _=>by kernel_rfl
 have i1:∀ w,(Instr.index 264 (.agg #[.string ⟨#[116]⟩,.string ⟨#[107]⟩,.string ⟨#[97]⟩,.string ⟨#[98]⟩]) (.int .i64 1)).run Tryz.prog w=.ok (.string ⟨#[107]⟩) w:=fun _=>by kernel_rfl
 have i2:∀ w,(Instr.index 264 (.agg #[.string ⟨#[116]⟩,.string ⟨#[107]⟩,.string ⟨#[97]⟩,.string ⟨#[98]⟩]) (.int .i64 2)).run Tryz.prog w=.ok (.string ⟨#[97]⟩) w:=fun _=>by kernel_rfl
 have i3:∀ w,(Instr.index 264 (.agg #[.string ⟨#[116]⟩,.string ⟨#[107]⟩,.string ⟨#[97]⟩,.string ⟨#[98]⟩]) (.int .i64 3)).run Tryz.prog w=.ok (.string ⟨#[98]⟩) w:=fun _=>by kernel_rfl
 have g0:=T0.out.f0;have g1:=T0.out.f1;have g2:=T0.out.f2;have g3:=T0.out.f3;have hz:=ht.t.sz;have hz0:3 < w.heap.size:=by omega
 clear ht
 go_enter Tryz.func210,Tryz.ntmps210
 go_wp2_with fail
 go_loop [11] (fun i=>∃ j:Nat,j≤4∧i=.int .i64 j) (fun i=>4 - (intOf i).toNat)
 case atStart=>exact ⟨0,by omega,rfl⟩
 case round =>
  obtain ⟨j,hj,rfl⟩:=hrel;have jj:j=0∨j=1∨j=2∨j=3∨j=4:=by omega
  clear hj
  rcases jj with rfl | rfl | rfl | rfl | rfl
  ·go_wp2_with fail
   go_round
   case rel=>exact ⟨1,by omega,rfl⟩
   case measure=>simp [intOf]
  ·go_wp2_with fail
   go_round
   case rel=>exact ⟨2,by omega,rfl⟩
   case measure=>simp [intOf]
  ·go_wp2_with fail
   go_round
   case rel=>exact ⟨3,by omega,rfl⟩
   case measure=>simp [intOf]
  ·go_wp2_with fail
   go_round
   case rel=>exact ⟨4,by omega,rfl⟩
   case measure=>simp [intOf]
  ·clear i0 i1 i2 i3 g0 g1 g2 g3;go_wp2_with fail;refine (hp _ T0.out.t).mono ?_;rintro e w1 ⟨rfl,hb⟩;have B1:=aa (BA.out.trans (hb.mono BA.out.size));have T1:=aa (T0.out.below hb);have Z1:=aa (ai BZ.out hb BZ.out.lt);clear hb;have BX:=aa (aj w1 (.cells #[.int .i64 0,.int .i64 0] 41));have B2:=aa (B1.out.trans (BX.out.mono B1.out.size));have T2:=aa (T1.out.below BX.out);have Z2:=aa (ai Z1.out BX.out Z1.out.lt);go_wp2_with fail;refine (hq _ T2.out.t).mono ?_;rintro e w3 ⟨rfl,hb⟩;have B3:=aa (B2.out.trans (hb.mono B2.out.size));have T3:=aa (T2.out.below hb);have Z3:=aa (ai Z2.out hb Z2.out.lt);clear hb;have z0:=Z3.out.c 0 (by simp);have y0:=Z3.out.fz 0;have z1:=Z3.out.c 1 (by simp);have y1:=Z3.out.fz 1;have z2:=Z3.out.c 2 (by simp);have y2:=Z3.out.fz 2;have z3:=Z3.out.c 3 (by simp);have y3:=Z3.out.fz 3;have z4:=Z3.out.c 4 (by simp);have y4:=Z3.out.fz 4;have z5:=Z3.out.c 5 (by simp);have y5:=Z3.out.fz 5;simp only [List.getElem?_cons_zero,List.getElem?_cons_succ] at z0 z1 z2 z3 z4 z5;have S8:=aa (show BlkAt ((((((w3.setCell ⟨w.heap.size,0,none⟩ (.int .i64 0)).setCell ⟨w.heap.size,1,none⟩ (.int .i64 0)).setCell ⟨w.heap.size,2,none⟩ (.int .i64 0)).setCell ⟨w.heap.size,3,none⟩ (.int .i64 0)).setCell ⟨w.heap.size,4,none⟩ (.int .i64 0)).setCell ⟨w.heap.size,5,none⟩ (.int .i64 0)) w.heap.size [.int .i64 0,.int .i64 0,.int .i64 0,.int .i64 0,.int .i64 0,.int .i64 0] from by have q:=(ay (ay (ay (ay (ay (ay Z3.out 0 (.int .i64 0) (by simp)) 1 (.int .i64 0) (by simp)) 2 (.int .i64 0) (by simp)) 3 (.int .i64 0) (by simp)) 4 (.int .i64 0) (by simp)) 5 (.int .i64 0) (by simp));simp only [List.set] at q;exact q);have B8:Hid (Below w.heap.size w ((((((w3.setCell ⟨w.heap.size,0,none⟩ (.int .i64 0)).setCell ⟨w.heap.size,1,none⟩ (.int .i64 0)).setCell ⟨w.heap.size,2,none⟩ (.int .i64 0)).setCell ⟨w.heap.size,3,none⟩ (.int .i64 0)).setCell ⟨w.heap.size,4,none⟩ (.int .i64 0)).setCell ⟨w.heap.size,5,none⟩ (.int .i64 0))):=((((((B3.out.setCell (p:=⟨w.heap.size,0,none⟩) (Nat.le_refl _) (.int .i64 0)).setCell (p:=⟨w.heap.size,1,none⟩) (Nat.le_refl _) (.int .i64 0)).setCell (p:=⟨w.heap.size,2,none⟩) (Nat.le_refl _) (.int .i64 0)).setCell (p:=⟨w.heap.size,3,none⟩) (Nat.le_refl _) (.int .i64 0)).setCell (p:=⟨w.heap.size,4,none⟩) (Nat.le_refl _) (.int .i64 0)).setCell (p:=⟨w.heap.size,5,none⟩) (Nat.le_refl _) (.int .i64 0));go_wp2_with fail;generalize ((((((w3.setCell ⟨w.heap.size,0,none⟩ (.int .i64 0)).setCell ⟨w.heap.size,1,none⟩ (.int .i64 0)).setCell ⟨w.heap.size,2,none⟩ (.int .i64 0)).setCell ⟨w.heap.size,3,none⟩ (.int .i64 0)).setCell ⟨w.heap.size,4,none⟩ (.int .i64 0)).setCell ⟨w.heap.size,5,none⟩ (.int .i64 0))=wz at *;have S9:=S8;have B9:=B8;have s0:=S9.out.c 0 (by simp);have s1:=S9.out.c 1 (by simp);have s2:=S9.out.c 2 (by simp);have s3:=S9.out.c 3 (by simp);have s4:=S9.out.c 4 (by simp);have s5:=S9.out.c 5 (by simp);simp only [List.getElem?_cons_zero,List.getElem?_cons_succ] at s0 s1 s2 s3 s4 s5
   exact bodyPost_ret (v:=.tuple #[.agg #[.int .i64 0,.int .i64 0,.int .i64 0,.int .i64 0,.int .i64 0,.int .i64 0],.bool false]) (by simp [results,Tryz.results210,go_sem,s0,s1,s2,s3,s4,s5]) rfl ⟨rfl,B9.out⟩
theorem wq_lit (s:ByteArray) (l:List UInt8):(s.toList == l)=decide (s=⟨l.toArray⟩):=by
 have h:=@beq_lit s ⟨l.toArray⟩;rw [Lib.toList_data ⟨l.toArray⟩] at h
 simpa using h
theorem leaf_any (s:ByteArray) (hw:WQ s) (w:World) (ht:TabQ w) :
  Calls Tryz.prog 210 #[.string s] w fun e w'=>e=.returned (.tuple #[fV (dj s).1,.bool (dj s).2])∧Below w.heap.size w w':=by
 have L:∀ (t:ByteArray) (b:Bool),decide (s=t)=b→(s.toList == t.data.toList)=b:=fun t b h=>by rw [wq_lit];simpa using h
 by_cases h0:s=wT
 ·have e:dj s=(⟨2,0,0,0,0,0⟩,true):=by subst h0;rfl
  rw [e];exact leaf_f0 s w ht (L wT _ (by simp [h0]))
 have q0:=L wT false (by simp [h0])
 by_cases h1:s=wK
 ·have e:dj s=(⟨2,0,0,1,0,0⟩,true):=by subst h1;rfl
  rw [e];exact leaf_f1 s w ht q0 (L wK _ (by simp [h1]))
 have q1:=L wK false (by simp [h1])
 by_cases h2:s=wA
 ·have e:dj s=(⟨2,0,0,2,0,0⟩,true):=by subst h2;rfl
  rw [e];exact leaf_f2 s w ht q0 q1 (L wA _ (by simp [h2]))
 have q2:=L wA false (by simp [h2])
 by_cases h3:s=wB
 ·have e:dj s=(⟨2,0,0,3,0,0⟩,true):=by subst h3;rfl
  rw [e];exact leaf_f3 s w ht q0 q1 q2 (L wB _ (by simp [h3]))
 have q3:=L wB false (by simp [h3]);have ef:qD s=none:=by unfold qD;rw [if_neg h0,if_neg h1,if_neg h2,if_neg h3]
 by_cases h4:s=wNull
 ·have e:dj s=(⟨1,0,0,0,0,0⟩,true):=by unfold dj fT;rw [ef];simp only;rw [if_pos h4]
  rw [e];exact mY s w ht q0 q1 q2 q3 0 0 (fun w _=>parse_N s w (L wNull _ (by simp [h4])))
 have q4:=L wNull false (by simp [h4])
 by_cases h5:s=wFalse
 ·have e:dj s=(⟨1,0,0,0,2,0⟩,true):=by unfold dj fT;rw [ef];simp only;rw [if_neg h4,if_pos h5]
  rw [e];exact mY s w ht q0 q1 q2 q3 2 0 (fun w _=>parse_F s w q4 (L wFalse _ (by simp [h5])))
 have q5:=L wFalse false (by simp [h5])
 by_cases h6:s=wTrue
 ·have e:dj s=(⟨1,0,0,0,2,1⟩,true):=by unfold dj fT;rw [ef];simp only;rw [if_neg h4,if_neg h5,if_pos h6]
  rw [e];exact mY s w ht q0 q1 q2 q3 2 1 (fun w _=>parse_T s w q4 q5 (L wTrue _ (by simp [h6])))
 have q6:=L wTrue false (by simp [h6]);have hsz:=hw.2;cases hq:nK 1000000000 s with
 | some n =>
  have e:dj s=(⟨1,0,0,0,1,n⟩,true):=by unfold dj fT;rw [ef];simp only;rw [if_neg h4,if_neg h5,if_neg h6,hq]
  rw [e];obtain ⟨y1,y2⟩:=mh (by decide) hq
  by_cases hi:s.data.toList=Lib.itoa n
  ·exact mY s w ht q0 q1 q2 q3 1 n (fun w ht=>parse_num s w ht q4 q5 q6 (by omega) n y1 (by omega) (by omega) hi)
  ·have eN:px (n:Int)=Lib.itoa n:=by unfold px;rw [if_pos (by omega)]
   refine leaf_n s w ht q0 q1 q2 q3 n (by omega) (by omega) (fun w ht=>jN s w ht q4 q5 q6 (by omega) n y1 (by rw [eN];exact hi)) (fun w ht=>?_);have h9:=fd 1000000000 (by decide) s hw w ht;have eb:lN 1000000000 s=((n:Int),true):=by unfold lN;rw [hq]
   rw [eb] at h9;exact h9
 | none =>
  have e:dj s=(nd0,false):=by unfold dj fT;rw [ef];simp only;rw [if_neg h4,if_neg h5,if_neg h6,hq]
  rw [e];have hno:=pR hw.1 hq;have hN:∀ w,Tabs w→Calls Tryz.prog 151 #[.string s,.int .i64 1000000000] w fun e w'=>e=.returned (.tuple #[.int .i64 0,.bool false])∧Below w.heap.size w w':=fun w ht=>by
   have h9:=fd 1000000000 (by decide) s hw w ht;have eb:lN 1000000000 s=(0,false):=by unfold lN;rw [hq]
   rw [eb] at h9;exact h9
  by_cases hv:∃ v,Lib.atoiAll s.data.toList=.ok v
  ·obtain ⟨v,hv⟩:=hv;have hlt:=hno v hv;refine pE s w ht q0 q1 q2 q3 (fun w ht=>jN s w ht q4 q5 q6 (by omega) v hv (fun e9=>?_)) hN;have e8:px v=[110,117,108,108]:=by unfold px;rw [if_neg (by omega)]
   rw [e8] at e9
   apply h4
   have e7:s.data=#[110,117,108,108]:=by
    apply Array.toList_inj.1
    rw [e9]
   cases s
   simp only at e7
   rw [e7]
   rfl
  ·exact pE s w ht q0 q1 q2 q3 (fun w ht=>parse_no s w ht q4 q5 q6 (by omega) (fun v h=>hv ⟨v,h⟩)) hN
end Go.Proofs.YtcgjflamgnjhcaaGreatDoor

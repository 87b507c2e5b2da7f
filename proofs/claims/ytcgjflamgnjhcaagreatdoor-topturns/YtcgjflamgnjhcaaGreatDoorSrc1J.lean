/- Own texts in one. Conditions: as named in each. -/
import Derived.Test.YtcgjflamgnjhcaaGreatDoorKinJ
import Derived.Test.YtcgjflamgnjhcaaGreatDoorExprPureJ
import Derived.Test.YtcgjflamgnjhcaaGreatDoorVals3J
import Derived.ProofKit
import Derived.RowKit
set_option linter.unusedVariables false
set_option linter.unusedSimpArgs false
set_option maxRecDepth 100000
set_option maxHeartbeats 8000000
namespace Go.Proofs.YtcgjflamgnjhcaaGreatDoor
open Go.ChangeShapes Go.WideShapes Go.ChangeAt Go.RowKit
structure Ev where
 (t k1 k2 a1 a2 b1 b2:Int)
def gF (e:Ev):List Value:=[.int .i64 e.t,.int .i64 e.k1,.int .i64 e.k2,.int .i64 e.a1,.int .i64 e.a2,.int .i64 e.b1,.int .i64 e.b2]
def ei (e:Ev):Value:=.agg #[.int .i64 e.t,.int .i64 e.k1,.int .i64 e.k2,.int .i64 e.a1,.int .i64 e.a2,.int .i64 e.b1,.int .i64 e.b2]
theorem gQ (e:Ev):(gF e).length=7:=rfl
def fldC (k n:Int):Int:=if vok k n=false then 3 else if k=2 then 3 else if n < -1000 then 1 else if 1000 < n then 1 else 0
def evC (e:Ev):Int:=if e.t < 0 then 1 else if 9999 < e.t then 1 else if fldC e.k1 e.k2≠0 then fldC e.k1 e.k2 else if fldC e.a1 e.a2≠0 then fldC e.a1 e.a2 else fldC e.b1 e.b2
theorem ib (k n:Int):fldC k n=0∨fldC k n=1∨fldC k n=3:=by
 unfold fldC
 split
 ·simp
 ·split
  ·simp
  ·split
   ·simp
   ·split <;> simp
theorem jB (k n:Int) (w:World):Calls Tryz.prog 84 #[.agg #[.int .i64 k,.int .i64 n]] w fun e w'=>e=.returned (ik (fldC k n))∧Below w.heap.size w w':=by
 have H1:Hid (Below w.heap.size w (w.alloc (.cells #[.int .i64 k,.int .i64 n] 41))):=(Below.refl _ _).alloc (Nat.le_refl _) _;have c0:(w.alloc (.cells #[.int .i64 k,.int .i64 n] 41)).cell? ⟨w.heap.size,0,none⟩=some (.int .i64 k):=by go_simp
 have c1:(w.alloc (.cells #[.int .i64 k,.int .i64 n] 41)).cell? ⟨w.heap.size,1,none⟩=some (.int .i64 n):=by go_simp
 have lw:w.heap.size < (w.alloc (.cells #[.int .i64 k,.int .i64 n] 41)).heap.size:=by simp
 by_cases hv:vok k n=true
 ·have CK:=aa (fun w=>lZ k n w hv);unfold fldC;rw [if_neg (by simp [hv])];clear hv
  by_cases k2:k=2
  ·rw [if_pos k2];have z:(k == 2)=true:=by simp [k2]
   clear k2
   go_enter Tryz.func84,Tryz.ntmps84
   go_wp2_with fail;refine (CK.out _).mono ?_;rintro e w1 ⟨rfl,hb⟩;have HB:=aa hb;clear hb;obtain ⟨hc,hf⟩:=rules HB;go_wp2_with fail
   go_ret
   exact ⟨rfl,done H1.out HB⟩
  ·rw [if_neg k2];have z:(k == 2)=false:=by simp [k2]
   by_cases n1:n < -1000
   ·rw [if_pos n1];have z1:decide (n < -1000)=true:=by simp [n1]
    go_enter Tryz.func84,Tryz.ntmps84
    go_wp2_with fail;refine (CK.out _).mono ?_;rintro e w1 ⟨rfl,hb⟩;have HB:=aa hb;clear hb;obtain ⟨hc,hf⟩:=rules HB;go_wp2_with fail
    go_ret
    exact ⟨rfl,done H1.out HB⟩
   ·rw [if_neg n1];have z1:decide (n < -1000)=false:=by simp;omega
    by_cases n2:1000 < n
    ·rw [if_pos n2];have z2:decide (1000 < n)=true:=by simp [n2]
     go_enter Tryz.func84,Tryz.ntmps84
     go_wp2_with fail;refine (CK.out _).mono ?_;rintro e w1 ⟨rfl,hb⟩;have HB:=aa hb;clear hb;obtain ⟨hc,hf⟩:=rules HB;go_wp2_with fail
     go_ret
     exact ⟨rfl,done H1.out HB⟩
    ·rw [if_neg n2];have z2:decide (1000 < n)=false:=by simp;omega
     go_enter Tryz.func84,Tryz.ntmps84
     go_wp2_with fail;refine (CK.out _).mono ?_;rintro e w1 ⟨rfl,hb⟩;have HB:=aa hb;clear hb;obtain ⟨hc,hf⟩:=rules HB;go_wp2_with fail
     go_ret
     exact ⟨rfl,done H1.out HB⟩
 ·have hv':vok k n=false:=by simpa using hv
  have CK:=aa (fun w=>no k n w hv');unfold fldC;rw [if_pos hv']
  go_enter Tryz.func84,Tryz.ntmps84
  go_wp2_with fail;refine (CK.out _).mono ?_;rintro e w1 ⟨rfl,hb⟩;have HB:=aa hb;clear hb;obtain ⟨hc,hf⟩:=rules HB;go_wp2_with fail
  go_ret
  exact ⟨rfl,done H1.out HB⟩
def nzF (l:List Int) (m:Nat):Int:=((l.drop m).find? (fun c=>c != 0)).getD 0
theorem kG {l:List Int} {m:Nat} {c:Int} (h:l[m]?=some c) (hc:c≠0):nzF l m=c:=by
 obtain ⟨hm,e⟩:=List.getElem?_eq_some_iff.1 h;unfold nzF;rw [List.drop_eq_getElem_cons hm,e];have:(c != 0)=true:=by simp [hc]
 simp [List.find?,this]
theorem kj {l:List Int} {m:Nat} (h:l[m]?=some 0):nzF l m=nzF l (m+1):=by
 obtain ⟨hm,e⟩:=List.getElem?_eq_some_iff.1 h;unfold nzF;rw [List.drop_eq_getElem_cons hm,e,List.find?_cons]
 rfl
theorem evC_nz (e:Ev) (h1:0≤e.t) (h2:e.t≤9999):evC e=nzF [fldC e.k1 e.k2,fldC e.a1 e.a2,fldC e.b1 e.b2] 0:=by
 unfold evC nzF;rw [if_neg (by omega),if_neg (by omega)]
 by_cases h3:fldC e.k1 e.k2=0
 ·rw [if_neg (by simp [h3])]
  by_cases h4:fldC e.a1 e.a2=0
  ·rw [if_neg (by simp [h4])]
   by_cases h5:fldC e.b1 e.b2=0 <;> simp [h3,h4,h5]
  ·rw [if_pos h4]
   simp [h3,h4]
 ·rw [if_pos h3]
  simp [h3]
theorem im (x:Ev) (w:World):Calls Tryz.prog 44 #[ei x] w fun e w'=>e=.returned (ik (evC x))∧Below w.heap.size w w':=by
 obtain ⟨t,k1,k2,a1,a2,b1,b2⟩:=x;have HX:Hid (0≤t→t≤9999→evC ⟨t,k1,k2,a1,a2,b1,b2⟩=nzF [fldC k1 k2,fldC a1 a2,fldC b1 b2] 0):=fun h1 h2=>evC_nz ⟨t,k1,k2,a1,a2,b1,b2⟩ h1 h2
 have H1:Hid (Below w.heap.size w (w.alloc (.cells #[.int .i64 t,.int .i64 k1,.int .i64 k2,.int .i64 a1,.int .i64 a2,.int .i64 b1,.int .i64 b2] 43))):=(Below.refl _ _).alloc (Nat.le_refl _) _
 by_cases h1:t < 0
 ·have e:evC ⟨t,k1,k2,a1,a2,b1,b2⟩=1:=by unfold evC;rw [if_pos h1]
  rw [e];unfold ei
  go_enter Tryz.func44,Tryz.ntmps44
  go_wp2_with fail
  go_ret
  exact ⟨rfl,H1.out⟩
 have z1:decide (t < 0)=false:=by simp;omega
 by_cases h2:9999 < t
 ·have e:evC ⟨t,k1,k2,a1,a2,b1,b2⟩=1:=by unfold evC;rw [if_neg h1,if_pos h2]
  rw [e];unfold ei
  go_enter Tryz.func44,Tryz.ntmps44
  go_wp2_with fail
  go_ret
  exact ⟨rfl,H1.out⟩
 have z2:decide (9999 < t)=false:=by simp;omega
 rw [HX.out (by omega) (by omega)];generalize hC:ik (nzF [fldC k1 k2,fldC a1 a2,fldC b1 b2] 0)=C;have HC:=aa hC;clear hC h1 h2 HX;have F1:=aa (fun w=>jB k1 k2 w);have F2:=aa (fun w=>jB a1 a2 w);have F3:=aa (fun w=>jB b1 b2 w);have HQ:Hid (∀ c d e:Int,fldC k1 k2=c→fldC a1 a2=d→fldC b1 b2=e→ik (nzF [c,d,e] 0)=C):=fun c d e hc hd he=>by rw [← hc,← hd,← he];exact HC.out
 have K1:=aa (ib k1 k2);have K2:=aa (ib a1 a2);have K3:=aa (ib b1 b2);generalize fldC k1 k2=f1 at *;generalize fldC a1 a2=f2 at *;generalize fldC b1 b2=f3 at *;have HQ:=aa (HQ.out f1 f2 f3 rfl rfl rfl);clear HC;unfold ei;have x0:∀ w:World,(Instr.index 154 (.agg #[.int .i64 k1,.int .i64 k2,.int .i64 a1,.int .i64 a2,.int .i64 b1,.int .i64 b2]) (.int .i64 0)).run Tryz.prog w=.ok (.agg #[.int .i64 k1,.int .i64 k2]) w:=fun w=>by kernel_rfl
 have x1:∀ w:World,(Instr.index 154 (.agg #[.int .i64 k1,.int .i64 k2,.int .i64 a1,.int .i64 a2,.int .i64 b1,.int .i64 b2]) (.int .i64 1)).run Tryz.prog w=.ok (.agg #[.int .i64 a1,.int .i64 a2]) w:=fun w=>by kernel_rfl
 have x2:∀ w:World,(Instr.index 154 (.agg #[.int .i64 k1,.int .i64 k2,.int .i64 a1,.int .i64 a2,.int .i64 b1,.int .i64 b2]) (.int .i64 2)).run Tryz.prog w=.ok (.agg #[.int .i64 b1,.int .i64 b2]) w:=fun w=>by kernel_rfl
 go_enter Tryz.func44,Tryz.ntmps44
 go_wp2_with fail;generalize (w.alloc (.cells #[.int .i64 t,.int .i64 k1,.int .i64 k2,.int .i64 a1,.int .i64 a2,.int .i64 b1,.int .i64 b2] 43))=wx at *
 go_loopw [22] (fun i wr=>∃ m:Nat,(m=0∧i=.int .i64 0∨m=1∧i=.int .i64 1∨m=2∧i=.int .i64 2∨m=3∧i=.int .i64 3)∧Hid (nzF [f1,f2,f3] 0=nzF [f1,f2,f3] m)∧Hid (Below w.heap.size w wr)) (fun i _=>3 - (intOf i).toNat)
 case atStart=>exact ⟨0,.inl ⟨rfl,rfl⟩,rfl,H1⟩
 case round =>
  obtain ⟨m,hm,HN,HB⟩:=hrel
  rcases hm with ⟨rfl,rfl⟩ | ⟨rfl,rfl⟩ | ⟨rfl,rfl⟩ | ⟨rfl,rfl⟩
  ·by_cases hf:f1=0
   ·subst hf;have HN2:Hid (nzF [0,f2,f3] 0=nzF [0,f2,f3] 1):=HN.out.trans (kj rfl);go_wp2_with fail;refine (F1.out _).mono ?_;rintro e w1 ⟨rfl,hb⟩;have HB:=nxt (nxta HB (.cells #[.int .i64 k1,.int .i64 k2] 41)) hb;clear hb;rw [show ik 0=.nilIface from rfl];go_wp2_with fail;go_roundw
    case rel=>exact ⟨1,.inr (.inl ⟨rfl,rfl⟩),HN2,HB⟩
    case measure=>simp [intOf]
   ·have EC:Hid (C=.iface 93 (.int .i64 f1)):=by
     show _=_
     rw [← HQ.out,HN.out,kG (c:=f1) rfl hf]
     simp [ik,hf]
    go_wp2_with fail;refine (F1.out _).mono ?_;rintro e w1 ⟨rfl,hb⟩;have HB:=nxt (nxta HB (.cells #[.int .i64 k1,.int .i64 k2] 41)) hb;clear hb;rw [show ik f1=.iface 93 (.int .i64 f1) from by simp [ik,hf]];go_wp2_with fail
    go_ret
    exact ⟨by rw [EC.out];rfl,HB.out⟩
  ·by_cases hf:f2=0
   ·subst hf;have HN2:Hid (nzF [f1,0,f3] 0=nzF [f1,0,f3] 2):=HN.out.trans (kj rfl);go_wp2_with fail;refine (F2.out _).mono ?_;rintro e w1 ⟨rfl,hb⟩;have HB:=nxt (nxta HB (.cells #[.int .i64 a1,.int .i64 a2] 41)) hb;clear hb;rw [show ik 0=.nilIface from rfl];go_wp2_with fail;go_roundw
    case rel=>exact ⟨2,.inr (.inr (.inl ⟨rfl,rfl⟩)),HN2,HB⟩
    case measure=>simp [intOf]
   ·have EC:Hid (C=.iface 93 (.int .i64 f2)):=by
     show _=_
     rw [← HQ.out,HN.out,kG (c:=f2) rfl hf]
     simp [ik,hf]
    go_wp2_with fail;refine (F2.out _).mono ?_;rintro e w1 ⟨rfl,hb⟩;have HB:=nxt (nxta HB (.cells #[.int .i64 a1,.int .i64 a2] 41)) hb;clear hb;rw [show ik f2=.iface 93 (.int .i64 f2) from by simp [ik,hf]];go_wp2_with fail
    go_ret
    exact ⟨by rw [EC.out];rfl,HB.out⟩
  ·by_cases hf:f3=0
   ·subst hf;have HN2:Hid (nzF [f1,f2,0] 0=nzF [f1,f2,0] 3):=HN.out.trans (kj rfl);go_wp2_with fail;refine (F3.out _).mono ?_;rintro e w1 ⟨rfl,hb⟩;have HB:=nxt (nxta HB (.cells #[.int .i64 b1,.int .i64 b2] 41)) hb;clear hb;rw [show ik 0=.nilIface from rfl];go_wp2_with fail;go_roundw
    case rel=>exact ⟨3,.inr (.inr (.inr ⟨rfl,rfl⟩)),HN2,HB⟩
    case measure=>simp [intOf]
   ·have EC:Hid (C=.iface 93 (.int .i64 f3)):=by
     show _=_
     rw [← HQ.out,HN.out,kG (c:=f3) rfl hf]
     simp [ik,hf]
    go_wp2_with fail;refine (F3.out _).mono ?_;rintro e w1 ⟨rfl,hb⟩;have HB:=nxt (nxta HB (.cells #[.int .i64 b1,.int .i64 b2] 41)) hb;clear hb;rw [show ik f3=.iface 93 (.int .i64 f3) from by simp [ik,hf]];go_wp2_with fail
    go_ret
    exact ⟨by rw [EC.out];rfl,HB.out⟩
  ·have EC:Hid (C=.nilIface):=by
    show _=_
    rw [← HQ.out,HN.out]
    rfl
   go_wp2_with fail
   go_ret
   exact ⟨by rw [EC.out];rfl,HB.out⟩
theorem ev7 {w:World} {g off i:Nat} {e:Ev} (h:∀ j,j < 7→w.cell? ⟨g,off+(i * 7+j),none⟩=(gF e)[j]?) :
  w.cell? ⟨g,off+i * 7,none⟩=some (.int .i64 e.t)∧w.cell? ⟨g,off+i * 7+1,none⟩=some (.int .i64 e.k1)∧w.cell? ⟨g,off+i * 7+2,none⟩=some (.int .i64 e.k2)∧w.cell? ⟨g,off+i * 7+3,none⟩=some (.int .i64 e.a1)∧w.cell? ⟨g,off+i * 7+4,none⟩=some (.int .i64 e.a2)∧w.cell? ⟨g,off+i * 7+5,none⟩=some (.int .i64 e.b1)∧w.cell? ⟨g,off+i * 7+6,none⟩=some (.int .i64 e.b2) :=
 ⟨h 0 (by omega),h 1 (by omega),h 2 (by omega),h 3 (by omega),h 4 (by omega),h 5 (by omega),h 6 (by omega)⟩
end Go.Proofs.YtcgjflamgnjhcaaGreatDoor
namespace Go.Proofs.YtcgjflamgnjhcaaGreatDoor
def gstep (kind:Int) (a:Int×Int×Int) (v:Int×Int):Int×Int×Int :=
 if v.1=0∧kind≠1 then a
 else if kind=1∨kind=2 then (a.1+1,a.2.1,a.2.2)
 else if kind=3 then (1,RowKit.wrap64 (a.2.1+v.2),a.2.2)
 else if kind=4 then if a.1=0∨v.2 < a.2.2 then (1,a.2.1,v.2) else a
 else if kind=5 then if a.1=0∨a.2.2 < v.2 then (1,a.2.1,v.2) else a
 else a
theorem wrap_two (s a b:Int):RowKit.wrap64 (RowKit.wrap64 (s+a)+b)=RowKit.wrap64 (RowKit.wrap64 (s+b)+a):=by
 unfold RowKit.wrap64;omega
theorem gstep_comm (kind:Int) (a:Int×Int×Int) (v u:Int×Int):gstep kind (gstep kind a v) u=gstep kind (gstep kind a u) v:=by
 obtain ⟨n,s,b⟩:=a;obtain ⟨v1,v2⟩:=v;obtain ⟨u1,u2⟩:=u
 by_cases k1:kind=1
 ·subst k1;simp [gstep]
 by_cases k2:kind=2
 ·subst k2;simp only [gstep]
  by_cases h1:v1=0 <;> by_cases h2:u1=0 <;> simp [h1,h2]
 by_cases k3:kind=3
 ·subst k3;simp only [gstep]
  by_cases h1:v1=0 <;> by_cases h2:u1=0 <;> simp [h1,h2]
  exact wrap_two s v2 u2
 by_cases k4:kind=4
 ·subst k4;simp only [gstep]
  by_cases h1:v1=0 <;> by_cases h2:u1=0 <;> simp [h1,h2]
  by_cases h3:n=0 <;> simp [h3]
  ·by_cases h4:u2 < v2 <;> by_cases h5:v2 < u2 <;> simp [h4,h5] <;> omega
  ·by_cases h4:v2 < b <;> by_cases h5:u2 < b <;> by_cases h6:u2 < v2 <;> by_cases h7:v2 < u2 <;> simp [h3,h4,h5,h6,h7] <;> omega
 by_cases k5:kind=5
 ·subst k5;simp only [gstep]
  by_cases h1:v1=0 <;> by_cases h2:u1=0 <;> simp [h1,h2]
  by_cases h3:n=0 <;> simp [h3]
  ·by_cases h4:u2 < v2 <;> by_cases h5:v2 < u2 <;> simp [h4,h5] <;> omega
  ·by_cases h4:b < v2 <;> by_cases h5:b < u2 <;> by_cases h6:u2 < v2 <;> by_cases h7:v2 < u2 <;> simp [h3,h4,h5,h6,h7] <;> omega
 simp [gstep,k1,k2,k3,k4,k5]
theorem gstep_n (kind:Int) (a:Int×Int×Int) (v:Int×Int) (h:0≤a.1):0≤(gstep kind a v).1∧(gstep kind a v).1≤a.1+1:=by
 unfold gstep
 repeat' split
 all_goals first | omega | (simp only;omega)
theorem oI {α:Type} {P:List α→Prop} (h0:P []) (h1:∀ l v,P l→P (l++[v])) (l:List α):P l:=by
 rw [← List.reverse_reverse l]
 induction l.reverse with
 | nil=>exact h0
 | cons x r ih =>
  rw [List.reverse_cons];exact h1 _ _ ih
end Go.Proofs.YtcgjflamgnjhcaaGreatDoor

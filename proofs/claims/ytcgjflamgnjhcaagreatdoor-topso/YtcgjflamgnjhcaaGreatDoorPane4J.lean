/- Own texts in one. Conditions: as named in each. -/
import Derived.Test.YtcgjflamgnjhcaaGreatDoorPane3
import Derived.Test.YtcgjflamgnjhcaaGreatDoorKinJ
import Derived.Lib.AppendZeros
import Derived.Laws.AppendOwnNone
set_option linter.unusedVariables false
set_option linter.unusedSimpArgs false
set_option maxRecDepth 100000
set_option maxHeartbeats 8000000
namespace Go.Proofs.YtcgjflamgnjhcaaGreatDoor
open Go.ChangeShapes Go.WideShapes Go.ChangeAt Go.RowKit
def orI (a b:Int):Int:=if a=0 then b else a
theorem cmpOr_any (a b:Int) (g:Nat) (w:World) (x0:w.cell? ⟨g,0,none⟩=some (.int .i64 a)) (x1:w.cell? ⟨g,1,none⟩=some (.int .i64 b)) :
  Calls Tryz.prog 135 #[.slice (some ⟨g,0,none⟩) 2 2] w fun e w'=>e=.returned (.int .i64 (orI a b))∧w'=w:=by
 go_enter Tryz.func135,Tryz.ntmps135
 go_wp2_with fail
 go_loopw [8] (fun i wr=>∃ m:Nat,m≤2∧i=.int .i64 m∧(1≤m→a=0)∧(2≤m→b=0)∧wr=w) (fun i _=>2 - (intOf i).toNat)
 case atStart=>exact ⟨0,by omega,rfl,fun h=>absurd h (by omega),fun h=>absurd h (by omega),rfl⟩
 case round =>
  obtain ⟨m,hm,rfl,h1,h2,rfl⟩:=hrel
  rcases (by omega:m=0∨m=1∨m=2) with rfl | rfl | rfl
  ·by_cases ha:a=0
   ·subst ha;go_wp2_with fail;go_roundw
    case rel=>exact ⟨1,by omega,by go_num,fun _=>(by first | rfl | trivial),fun h=>absurd h (by omega),(by first | rfl | trivial)⟩
    case measure=>simp [intOf]
   ·have hb:(a != 0)=true:=by simp [ha]
    go_wp2_with fail
    go_ret
    exact ⟨fu (by unfold orI;rw [if_neg ha]),rfl⟩
  ·have ha:=h1 (by omega);subst ha
   by_cases hbb:b=0
   ·subst hbb;go_wp2_with fail;go_roundw
    case rel=>exact ⟨2,by omega,by go_num,fun _=>(by first | rfl | trivial),fun _=>(by first | rfl | trivial),(by first | rfl | trivial)⟩
    case measure=>simp [intOf]
   ·have hb:(b != 0)=true:=by simp [hbb]
    go_wp2_with fail
    go_ret
    exact ⟨fu (by unfold orI;rw [if_pos rfl]),rfl⟩
  ·have ha:=h1 (by omega);have hb:=h2 (by omega);subst ha hb;go_wp2_with fail
   go_ret
   exact ⟨fu (by unfold orI;rw [if_pos rfl]),rfl⟩
def pcmp (st k n:Int) (p:Pn):Int:=orI (ms st p.st) (vcmp k n p.k p.n)
theorem find1_any (i:Nat) (ps:List Pn) (ao:Option Addr) (cap:Nat) (st k n:Int) (bs bt bk:Nat) (w:World) (ht:w.cell? ⟨bt,0,none⟩=some (.slice ao ps.length cap)) (hs:w.cell? ⟨bs,0,none⟩=some (.int .i64 st))
  (hk0:w.cell? ⟨bk,0,none⟩=some (.int .i64 k)) (hk1:w.cell? ⟨bk,1,none⟩=some (.int .i64 n)) (lt:bt < w.heap.size) (ls:bs < w.heap.size) (lk:bk < w.heap.size)
  (hr:bK w (.slice ao ps.length cap) 5 ps.length (rowOf aG ps)) (hi:i < ps.length) (hl:ps.length≤1000) :
  Calls Tryz.prog 134 #[.int .i64 i,.pointer (some ⟨bs,0,none⟩),.pointer (some ⟨bt,0,none⟩),.pointer (some ⟨bk,0,none⟩)] w fun e w'=>e=.returned (.int .i64 (pcmp st k n ps[i]))∧Below w.heap.size w w':=by
 obtain ⟨g,off,rfl,hcell,q1,q2,lg⟩:=bj aW hr i hi;generalize ps[i]=p at *;obtain ⟨p1,p2,p3,p4,p5,p6⟩:=p;have x0:w.cell? ⟨g,off+i * 5,none⟩=some (.int .i64 p1):=hcell 0 (by omega);have x1:w.cell? ⟨g,off+i * 5+1,none⟩=some (.int .i64 p2):=hcell 1 (by omega);have x2:w.cell? ⟨g,off+i * 5+1+1,none⟩=some (.int .i64 p3):=hcell 2 (by omega);unfold maxLen at q2;unfold pcmp
 simp only
 clear hcell hr;have hS:Below w.heap.size w { w with drawn:=w.drawn+1 }:=(Below.refl _ _).drew
 go_enter Tryz.func134,Tryz.ntmps134
 go_wp2_with fail;refine aZ (Below w.heap.size w) 18 (by kernel_rfl) ?_;generalize hwd:({ w with drawn:=w.drawn+1 }:World)=wd at *;clear hwd;refine LU 0 (v:=.int .i64 st) [7,16,17,18] rfl (fun wq hq=>by have q:=hq.cell (p:=⟨bs,0,none⟩) ls;rw [hs] at q;go_simp) hS ?_;refine LU 1 (v:=.pointer (some ⟨bt,0,none⟩)) [2,4,5,6,7,16,17,18] rfl (fun wq hq=>by go_simp) hS ?_;refine LU 2 (v:=.slice (some ⟨g,off,none⟩) ps.length cap) [4,5,6,7,16,17,18] rfl (fun wq hq=>by have q:=hq.cell (p:=⟨bt,0,none⟩) lt;rw [ht] at q;go_simp) hS ?_;refine LU 3 (v:=.int .i64 (i:Int)) [4,5,6,7,16,17,18] rfl (fun wq hq=>by go_simp) hS ?_;refine LU 4 (v:=.pointer (some ⟨g,off+i * 5,none⟩)) [5,6,7,16,17,18] rfl (fun wq hq=>by go_simp) hS ?_;refine LU 5 (v:=.pointer (some ⟨g,off+i * 5,none⟩)) [6,7,16,17,18] rfl (fun wq hq=>by go_simp) hS ?_;refine LU 6 (v:=.int .i64 p1) [7,16,17,18] rfl (fun wq hq=>by have q:=hq.cell (p:=⟨g,off+i * 5,none⟩) lg;rw [x0] at q;go_simp) hS ?_;refine LU 9 (v:=.pointer (some ⟨bt,0,none⟩)) [10,12,13,14,15,16,17,18] rfl (fun wq hq=>by go_simp) hS ?_;refine LU 10 (v:=.slice (some ⟨g,off,none⟩) ps.length cap) [12,13,14,15,16,17,18] rfl (fun wq hq=>by have q:=hq.cell (p:=⟨bt,0,none⟩) lt;rw [ht] at q;go_simp) hS ?_;refine LU 11 (v:=.int .i64 (i:Int)) [12,13,14,15,16,17,18] rfl (fun wq hq=>by go_simp) hS ?_;refine LU 12 (v:=.pointer (some ⟨g,off+i * 5,none⟩)) [13,14,15,16,17,18] rfl (fun wq hq=>by go_simp) hS ?_;refine LU 13 (v:=.pointer (some ⟨g,off+i * 5+1,none⟩)) [14,15,16,17,18] rfl (fun wq hq=>by go_simp) hS ?_;refine LU 14 (v:=.agg #[.int .i64 p2,.int .i64 p3]) [15,16,17,18] rfl (fun wq hq=>by have q0:=hq.cell (p:=⟨g,off+i * 5+1,none⟩) lg;rw [x1] at q0;have q1:=hq.cell (p:=⟨g,off+i * 5+1+1,none⟩) lg;rw [x2] at q1;go_simp) hS ?_;refine LU 8 (v:=.agg #[.int .i64 k,.int .i64 n]) [15,16,17,18] rfl (fun wq hq=>by have q0:=hq.cell (p:=⟨bk,0,none⟩) lk;rw [hk0] at q0;have q1:=hq.cell (p:=⟨bk,1,none⟩) lk;rw [hk1] at q1;go_simp) hS ?_;refine LG 7 rfl ?_;intro K' hK;go_simp;refine (mA _ _ _).mono ?_;rintro e w2 ⟨rfl,rfl⟩;refine hK _ _ ⟨fun _=>hS,?_⟩;clear hK;refine LG 15 rfl ?_;intro K' hK;go_simp;refine (compare_any _ _ _ _ _).mono ?_;rintro e w2 ⟨rfl,hb⟩;have hS2:Below w.heap.size w w2:=hS.trans (hb.mono hS.size);refine hK _ _ ⟨fun _=>hS2,?_⟩;clear hK hb hS;refine LG 16 rfl ?_;intro K' hK;have hS3:=hS2.alloc hS2.size (.cells #[.int .i64 (ms st p1),.int .i64 (vcmp k n p2 p3)] 3);have BX:=aN w2 [.int .i64 (ms st p1),.int .i64 (vcmp k n p2 p3)] 3 (by simp);have c0:(w2.alloc (.cells #[.int .i64 (ms st p1),.int .i64 (vcmp k n p2 p3)] 3)).cell? ⟨w2.heap.size,0,none⟩=some (.int .i64 (ms st p1)):=BX.c 0 (by simp);have c1:(w2.alloc (.cells #[.int .i64 (ms st p1),.int .i64 (vcmp k n p2 p3)] 3)).cell? ⟨w2.heap.size,1,none⟩=some (.int .i64 (vcmp k n p2 p3)):=BX.c 1 (by simp);go_simp;refine hK _ _ ⟨fun _=>hS3,?_⟩;clear hK BX hS2;generalize hw3:w2.alloc (.cells #[.int .i64 (ms st p1),.int .i64 (vcmp k n p2 p3)] 3)=w3 at *
 clear hw3;generalize w2.heap.size=g3 at *;clear w2;refine LG 17 rfl ?_;intro K' hK;go_simp;refine (cmpOr_any _ _ _ _ c0 c1).mono ?_;rintro e w4 ⟨rfl,rfl⟩;refine hK _ _ ⟨fun _=>hS3,?_⟩;clear hK;refine LG 18 rfl ?_;intro K' hK;go_simp;refine hK _ _ ⟨fun _=>hS3,?_⟩;clear hK;refine bI (by kernel_rfl) ?_ _;go_wp2_with fail
 go_ret
 exact ⟨rfl,hS3⟩
theorem sfind_any (n:Nat) (c:Nat→Int) (p1 p2 p3:Value) (w:World) (hn:n≤1000) (hmon:∀ p q,p≤q→q < n→c p≤0→c q≤0)
  (hc:∀ q,q < n→∀ w',Below w.heap.size w w'→Calls Tryz.prog 134 #[.int .i64 q,p1,p2,p3] w' fun e w''=>e=.returned (.int .i64 (c q))∧Below w'.heap.size w' w'') :
  Calls Tryz.prog 133 #[.int .i64 n,.func (.func 134) #[] #[p1,p2,p3]] w fun e w'=>∃ i:Nat,i≤n∧(∀ q,q < i→0 < c q)∧(∀ q,i≤q→q < n→c q≤0)∧e=.returned (.tuple #[.int .i64 i,.bool (decide (i < n) && (c i == 0))])∧Below w.heap.size w w':=by
 have HC:=aa hc;have HM:=aa hmon;clear hc hmon
 go_enter Tryz.func133,Tryz.ntmps133
 go_wp2_with fail
 go_loopw [4,6] (fun i j wr=>∃ a b:Nat,a≤b∧b≤n∧i=.int .i64 a∧j=.int .i64 b∧Hid (∀ q,q < a→0 < c q)∧Hid (∀ q,b≤q→q < n→c q≤0)∧Hid (Below w.heap.size w wr)) (fun i j _=>(intOf j).toNat - (intOf i).toNat)
 case atStart=>exact ⟨0,n,Nat.zero_le _,Nat.le_refl _,rfl,rfl,fun q hq=>absurd hq (by omega),fun q h1 h2=>absurd h1 (by omega),Below.refl _ _⟩
 case round =>
  obtain ⟨a,b,hab,hbn,rfl,rfl,HA,HZ,HB⟩:=hrel
  by_cases hlt:a < b
  ·obtain ⟨h,hh,h1,h2⟩:∃ h:Nat,((a:Int)+b) / 2=(h:Int)∧a≤h∧h < b:=⟨(a+b) / 2,by omega,by omega,by omega⟩;have HH:=aa (HC.out h (by omega));have MO:=aa (fun q (hq:h≤q) (hq2:q < n)=>HM.out h q hq hq2);have MP:Hid (∀ q,q < h→0 < c h→0 < c q):=fun q hq h9=>by
    by_cases h8:0 < c q
    ·exact h8
    ·have:=HM.out q h (by omega) (by omega) (by omega)
     omega
   have CE:Hid (∀ q,q=h→c q=c h):=fun q e=>by rw [e]
   generalize c h=x at *;go_wp2_with fail;refine (HH.out _ HB.out).mono ?_;rintro e w2 ⟨rfl,hb⟩;have HB2:=nxt HB hb;clear hb HB
   by_cases hx:0 < x
   ·have dx:decide (0 < x)=true:=by simp [hx]
    go_wp2_with fail;go_roundw
    case rel=>exact ⟨h+1,b,by omega,hbn,by go_num,rfl,fun q hq=>by
      by_cases h9:q=h
      ·rw [CE.out q h9];exact hx
      ·exact MP.out q (by omega) hx,HZ,HB2⟩
    case measure=>simp [intOf];omega
   ·have dx:decide (0 < x)=false:=by simp;omega
    go_wp2_with fail;go_roundw
    case rel=>exact ⟨a,h,h1,by omega,rfl,by go_num,HA,fun q hq hq2=>MO.out q hq hq2 (by omega),HB2⟩
    case measure=>simp [intOf];omega
  ·have hae:a=b:=by omega
   subst hae
   by_cases hq:a < n
   ·have HH:=aa (HC.out a hq);have dn:decide ((a:Int) < (n:Int))=true:=by simp;omega
    have RE:Hid ((decide (a < n) && (c a == 0))=(c a == 0)):=by
     show _=_
     simp [hq]
    go_wp2_with fail;refine (HH.out _ HB.out).mono ?_;rintro e w2 ⟨rfl,hb⟩;have HB2:=nxt HB hb;clear hb HB;go_wp2_with fail;refine bodyPost_ret (v:=.tuple #[.int .i64 a,.bool (c a == 0)]) (by simp [results,Tryz.results133,go_sem]) rfl ⟨a,hbn,HA.out,HZ.out,by rw [RE.out],HB2.out⟩
   ·have dn:decide ((a:Int) < (n:Int))=false:=by simp;omega
    have RE:Hid ((decide (a < n) && (c a == 0))=false):=by
     show _=_
     simp [hq]
    go_wp2_with fail;refine bodyPost_ret (v:=.tuple #[.int .i64 a,.bool false]) (by simp [results,Tryz.results133,go_sem]) rfl ⟨a,hbn,HA.out,HZ.out,by rw [RE.out],HB.out⟩
def lexlt (a1 a2 a3 b1 b2 b3:Int):Prop:=a1 < b1∨(a1=b1∧(a2 < b2∨(a2=b2∧a3 < b3)))
theorem gj (st k n:Int) (p:Pn):0 < pcmp st k n p↔lexlt p.st p.k p.n st k n:=by
 unfold pcmp orI vcmp ms lexlt
 repeat' split
 all_goals omega
theorem fp (st k n:Int) (p:Pn):pcmp st k n p=0↔(p.st=st∧p.k=k∧p.n=n):=by
 unfold pcmp orI vcmp ms
 repeat' split
 all_goals omega
def iw (ps:List Pn):Prop:=ps.Pairwise fun p q=>lexlt p.st p.k p.n q.st q.k q.n
def cAt (st k n:Int) (ps:List Pn) (q:Nat):Int:=(ps[q]?.map (pcmp st k n)).getD 0
theorem gn (st k n:Int) (ps:List Pn) (q:Nat) (h:q < ps.length):cAt st k n ps q=pcmp st k n ps[q]:=by
 unfold cAt;rw [List.getElem?_eq_getElem h]
 rfl
theorem cAt_mono {ps:List Pn} (hr:iw ps) (st k n:Int) (p q:Nat) (hpq:p≤q) (hq:q < ps.length) (h:cAt st k n ps p≤0):cAt st k n ps q≤0:=by
 by_cases e:p=q
 ·subst e;exact h
 ·rw [gn _ _ _ _ _ (by omega)] at h ⊢;have h1:=List.pairwise_iff_getElem.1 hr p q (by omega) hq (by omega);have h2:=gj st k n ps[p];have h3:=gj st k n (ps[q]'hq);refine Int.not_lt.1 fun h9=>absurd (h2.2 ?_) (by omega)
  have h4:=h3.1 h9;unfold lexlt at h1 h4 ⊢;omega
theorem mP (ps:List Pn) (ao:Option Addr) (cap:Nat) (st k n:Int) (w:World) (hr:bK w (.slice ao ps.length cap) 5 ps.length (rowOf aG ps)) (hl:ps.length≤1000) (hR:iw ps) :
  Calls Tryz.prog 100 #[.agg #[.slice ao ps.length cap],.int .i64 st,.agg #[.int .i64 k,.int .i64 n]] w fun e w'=>∃ i:Nat,i≤ps.length∧(∀ q,q < i→0 < cAt st k n ps q)∧(∀ q,i≤q→q < ps.length→cAt st k n ps q≤0)∧e=.returned (.tuple #[.int .i64 i,.bool (decide (i < ps.length) && (cAt st k n ps i == 0))])∧Below w.heap.size w w':=by
 have hA1:=(Below.refl w.heap.size w).alloc (Nat.le_refl _) (.cells #[.slice ao ps.length cap] 66);have hA2:=hA1.alloc hA1.size (.cells #[.int .i64 st] 3);have hA:=hA2.alloc hA2.size (.cells #[.int .i64 k,.int .i64 n] 41);have B0:=ah (ah (aN w [.slice ao ps.length cap] 66 (by simp)) ((Below.refl _ _).alloc (Nat.le_refl _) (.cells #[.int .i64 st] 3)) (by simp)) ((Below.refl _ _).alloc (Nat.le_refl _) (.cells #[.int .i64 k,.int .i64 n] 41)) (by simp;omega);have B1:=ah (aN (w.alloc (.cells #[.slice ao ps.length cap] 66)) [.int .i64 st] 3 (by simp)) ((Below.refl _ _).alloc (Nat.le_refl _) (.cells #[.int .i64 k,.int .i64 n] 41)) (by simp);have B2:=aN ((w.alloc (.cells #[.slice ao ps.length cap] 66)).alloc (.cells #[.int .i64 st] 3)) [.int .i64 k,.int .i64 n] 41 (by simp);have RR:=aA hr hA;rw [show (w.alloc (.cells #[.slice ao ps.length cap] 66)).heap.size=w.heap.size+1 from by simp] at B1;rw [show ((w.alloc (.cells #[.slice ao ps.length cap] 66)).alloc (.cells #[.int .i64 st] 3)).heap.size=w.heap.size+1+1 from by simp] at B2;have FC:=aa (sfind_any ps.length (cAt st k n ps) (.pointer (some ⟨w.heap.size+1,0,none⟩)) (.pointer (some ⟨w.heap.size,0,none⟩)) (.pointer (some ⟨w.heap.size+1+1,0,none⟩)) _ hl (fun p q h1 h2 h3=>cAt_mono hR st k n p q h1 h2 h3)
  (fun q hq w' hb=>by
   rw [gn _ _ _ _ _ hq];have D0:=ah B0 hb B0.lt;have D1:=ah B1 hb B1.lt;have D2:=ah B2 hb B2.lt;exact find1_any q ps ao cap st k n _ _ _ w' (D0.c 0 (by simp)) (D1.c 0 (by simp)) (D2.c 0 (by simp)) (D2.c 1 (by simp)) D0.lt D1.lt D2.lt (aA RR hb) hq hl))
 have HA:=aa hA;have d3:(((w.alloc (.cells #[.slice ao ps.length cap] 66)).alloc (.cells #[.int .i64 st] 3)).alloc (.cells #[.int .i64 k,.int .i64 n] 41)).cell? ⟨w.heap.size,0,none⟩=some (.slice ao ps.length cap):=B0.c 0 (by simp);clear hA1 hA2 hA B0 B1 B2 RR hr hR
 go_enter Tryz.func100,Tryz.ntmps100
 go_wp2_with fail;refine FC.out.mono ?_;rintro e w1 ⟨i,h1,h2,h3,rfl,hb⟩;have HB:=nxt HA hb;have R:=aa (And.intro h2 h3);clear hb h2 h3 HA FC d3;go_wp2_with fail;exact bodyPost_ret (v:=.tuple #[.int .i64 i,.bool (decide (i < ps.length) && (cAt st k n ps i == 0))]) (by simp [results,Tryz.results100,go_sem]) rfl ⟨i,h1,R.out.1,R.out.2,rfl,HB.out⟩
theorem grow_any (n:Nat) (w:World) (h0:0 < n) (hn:n≤1000) :
  Calls Tryz.prog 140 #[.slice none 0 0,.int .i64 n] w fun e w'=>∃ u,e=.returned u∧w'.ownsRow w.heap.size 84 5 u 0 []∧Below w.heap.size w w':=by
 obtain ⟨i0,hi,hz0,hz1,hz2⟩:=info_parts infoP;have HR:=aa (fun ty=>Lib.run_append_nil_zeros (P:=Tryz.prog) w 64 3 ty 84 i0 _ .i64 .i64 Tryz.underlying64 Tryz.underlying3 hi hz0 n h0 (by omega) (by omega) (by rw [hz2];omega));have G1:=aa (grownCap_ge w n 0 84);have G2:=aa (grownCap_le_maxLen w n 0 84 (by show _≤2 ^ 63 - 1;omega));have HS:Hid ((Builtin.zeroCells (Value.agg #[.int .i64 0,.int .i64 0,.int .i64 0,.slice none 0 0,.bool false]).cells n++Builtin.zeroCells (Value.agg #[.int .i64 0,.int .i64 0,.int .i64 0,.slice none 0 0,.bool false]).cells (grownCap w n 0 84 - n)).size=grownCap w n 0 84 * 5):=by
  show _=_
  rw [Array.size_append,size_zeroCells,size_zeroCells,show (Value.agg #[.int .i64 0,.int .i64 0,.int .i64 0,.slice none 0 0,.bool false]).cells.size=5 from rfl]
  have:=G1.out
  omega
 generalize grownCap w n 0 84=C at *;generalize (Builtin.zeroCells (Value.agg #[.int .i64 0,.int .i64 0,.int .i64 0,.slice none 0 0,.bool false]).cells n++Builtin.zeroCells (Value.agg #[.int .i64 0,.int .i64 0,.int .i64 0,.slice none 0 0,.bool false]).cells (C - n))=Z at *;have dn:decide ((n:Int) < 0)=false:=by simp
 have dp:decide ((0:Int) < (n:Int))=true:=by simp;omega
 go_enter Tryz.func140,Tryz.ntmps140
 go_wp2_with (at_builtin;go_must (refine Lib.wpList_append_run _ rfl _ _ _ _ rfl _ _ rfl rfl _ _ (HR.out _) ?_))
 go_ret
 refine ⟨_,rfl,⟨by simp,.inr ⟨w.heap.size,C,Z,rfl,Nat.le_refl _,?_,Nat.zero_le _,G2.out,HS.out,by simp⟩⟩,?_⟩
 ·show (w.drew.heap.push (.cells Z 84))[w.drew.heap.size]?=_
  exact Array.getElem?_push_size
 ·exact ((Below.refl _ _).drew).alloc (by simp) _
def sumN (n:Nat→Nat):Nat→Nat
 | 0=>0
 | m+1=>sumN n m+n m
def cat (X:Nat→List Value):Nat→List Value
 | 0=>[]
 | m+1=>cat X m++X m
theorem concat_any (g:Nat) (V:Nat→Value) (n:Nat→Nat) (X:Nat→List Value) (w:World) (lg:g < w.heap.size) (hc:∀ j,j < 3→w.cell? ⟨g,j,none⟩=some (V j)) (hr:∀ j,j < 3→gi w (V j) 5 (n j) (X j)) (h1:∀ j,j < 3→∀ u∈X j,u.oneCell'=true)
  (h0:0 < sumN n 3) (hs:sumN n 3≤1000) :
  Calls Tryz.prog 103 #[.slice (some ⟨g,0,none⟩) 3 3] w fun e w'=>∃ u,e=.returned u∧w'.ownsRow w.heap.size 84 5 u (sumN n 3) (cat X 3)∧Below w.heap.size w w':=by
 obtain ⟨i0,hi,hz0,hz1,hz2⟩:=info_parts infoP;have HC:=aa hc;have HR:=aa hr;have H1:=aa h1;have HS:Hid (∀ m,m < 3→sumN n m+n m=sumN n (m+1)∧sumN n (m+1)≤1000):=fun m hm=>⟨rfl,by
  have:sumN n 3=((0+n 0)+n 1)+n 2:=rfl
  rcases (by omega:m=0∨m=1∨m=2) with rfl | rfl | rfl
  ·show 0+n 0≤1000
   omega
  ·show (0+n 0)+n 1≤1000
   omega
  ·exact hs⟩
 have GR:=aa (fun w=>grow_any (sumN n 3) w h0 hs);clear hc hr h1
 go_enter Tryz.func103,Tryz.ntmps103
 go_wp2_with fail
 go_loopw [3,11] (fun s i wr=>∃ m:Nat,m≤3∧s=.int .i64 (sumN n m:Nat)∧i=.int .i64 m∧wr=w) (fun s i _=>3 - (intOf i).toNat)
 case atStart=>exact ⟨0,by omega,rfl,rfl,rfl⟩
 case round =>
  obtain ⟨m,hm,rfl,rfl,hwr⟩:=hrel;subst wr
  by_cases hlt:m < 3
  ·have hs1:=HS.out m hlt;have hcm:=HC.out m hlt;obtain ⟨ao,cap,hv⟩:=aF (HR.out m hlt);rw [hv] at hcm;have hs3:sumN n m+n m≤1000:=by have:=hs1.1;have:=hs1.2;omega
   have HE:Hid (((sumN n (m+1):Nat):Int)=(sumN n m:Int)+(n m:Int)):=by
    show _=_
    rw [← hs1.1]
    simp
   generalize n m=nm at *;generalize sumN n m=s1 at *;clear hs1;have dd:decide (((s1:Int)+nm) < 0)=false:=by simp;omega
   go_wp2_with fail;go_roundw
   case rel=>exact ⟨m+1,by omega,by rw [HE.out],by go_num,by first | rfl | trivial⟩
   case measure=>simp [intOf];omega
  ·have hme:m=3:=by omega
   subst hme;go_wp2_with fail;refine (GR.out _).mono ?_;rintro e w1 ⟨u0,rfl,ho,hb⟩;have HO:=aa ho;have HB:=aa hb;obtain ⟨aou,capu,rfl⟩:=ax ho;clear ho hb;go_wp2_with fail
   go_loopw [6,27] (fun u i wr=>∃ m:Nat,m≤3∧i=.int .i64 m∧Hid (wr.ownsRow w.heap.size 84 5 u (sumN n m) (cat X m))∧Hid (Below w.heap.size w wr)) (fun u i _=>3 - (intOf i).toNat)
   case atStart=>exact ⟨0,by omega,rfl,HO,HB⟩
   case round =>
    clear HO HB;obtain ⟨m,hm,rfl,HO,HB⟩:=hrel;obtain ⟨aou,capu,hu⟩:=ax HO.out;subst hu
    by_cases hlt:m < 3
    ·have hs1:=HS.out m hlt;have hcm:=HC.out m hlt;have c0:=HB.out.cell (p:=⟨g,m,none⟩) lg;rw [hcm] at c0;have hs3:sumN n m+n m≤1000:=by have:=hs1.1;have:=hs1.2;omega
     obtain ⟨hl,hrow⟩:=HR.out m hlt
     rcases hrow with ⟨hv,hn0⟩ | ⟨g2,off2,cap2,hv,q1,q2,q3,q4⟩
     ·rw [hv] at c0;have HX:Hid (cat X (m+1)=cat X m∧sumN n (m+1)=sumN n m):=⟨by
       have:X m=[]:=List.eq_nil_of_length_eq_zero (by rw [hl,hn0])
       show cat X m++X m=cat X m
       rw [this,List.append_nil],by
       show sumN n m+n m=_
       omega⟩
      generalize sumN n m=s1 at *;clear hcm hs1 hl
      go_wp2_with (at_builtin;go_must (refine wpList_append_own_none rfl (.tmp 31) (.tmp 32) 64 rfl w.heap.size 84 i0 5 Tryz.underlying64 hi _ _ _ rfl HO.out rfl ?_))
      go_roundw
      case rel=>exact ⟨m+1,by omega,by go_num,by rw [HX.out.1,HX.out.2];exact HO,HB⟩
      case measure=>simp [intOf];omega
     ·rw [hv] at c0;have HN:Hid (∀ j u,(X m)[j]?=some u→wr.cell? ((⟨g2,off2,none⟩:Addr).add j)=some u):=fun j u hu=>by
       have hj:j < n m * 5:=by
        have:=(List.getElem?_eq_some_iff.1 hu).1
        omega
       have h3:(⟨g2,off2,none⟩:Addr).add j=⟨g2,off2+j,none⟩:=by simp [Addr.add]
       have h2:=HB.out.cell (p:=⟨g2,off2+j,none⟩) q3;rw [h3,h2,q4 j hj,hu]
      have HL:=aa hl;have HOC:=aa (H1.out m hlt);have HX:Hid (cat X (m+1)=cat X m++X m∧sumN n (m+1)=sumN n m+n m):=⟨rfl,rfl⟩;generalize sumN n m=s1 at *;generalize n m=nm at *;generalize X m=Y at *;generalize cat X m=Z at *;unfold maxLen at q2;have hbs:=HB.out.size;clear hcm hs1 hl q4 hv
      go_wp2_with (at_builtin;go_must (refine wpList_append_own _ rfl (.tmp 31) (.tmp 32) 64 rfl w.heap.size 84 i0 (.agg #[.int .i64 0,.int .i64 0,.int .i64 0,.slice none 0 0,.bool false]) 5 56 Tryz.underlying64 hi hz0 hz1 hz2 rfl (by decide) _ _ _ rfl HO.out ⟨g2,off2,none⟩ nm cap2 Y rfl HL.out HN.out HOC.out (by show _≤2 ^ 63 - 1;omega) (by omega) hbs ?_))
      intro v' w3 ho3 hg3 _;have HO3:=aa ho3;have HB3:Hid (Below w.heap.size w w3):=HB.out.grown hg3 hbs (fun k hk=>(aJ HO.out k hk).1);clear ho3 hg3 HN;go_wp2_with fail;go_roundw
      case rel=>exact ⟨m+1,by omega,by go_num,by rw [HX.out.1,HX.out.2];exact HO3,HB3⟩
      case measure=>simp [intOf];omega
    ·have hme:m=3:=by omega
     subst hme;go_wp2_with fail
     go_ret
     exact ⟨_,rfl,HO.out,HB.out⟩
end Go.Proofs.YtcgjflamgnjhcaaGreatDoor

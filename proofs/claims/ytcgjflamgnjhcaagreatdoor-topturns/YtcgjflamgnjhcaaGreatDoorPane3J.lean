/- Own texts in one. Conditions: as named in each. -/
import Derived.Test.YtcgjflamgnjhcaaGreatDoorPane1J
import Derived.Test.YtcgjflamgnjhcaaGreatDoorKinJ
set_option linter.unusedVariables false
set_option linter.unusedSimpArgs false
set_option maxRecDepth 100000
set_option maxHeartbeats 8000000
namespace Go.Proofs.YtcgjflamgnjhcaaGreatDoor
open Go.ChangeShapes Go.WideShapes Go.ChangeAt Go.RowKit
def jE (a:Ac) (v:V2):Ac:=⟨a.k,(gstep a.k (a.n,a.s,a.b) v).1,(gstep a.k (a.n,a.s,a.b) v).2.1,(gstep a.k (a.n,a.s,a.b) v).2.2⟩
def dD (ac:List Ac) (vs:List V2):List Ac:=List.zipWith jE ac vs
def iw (k:Int):Ac:=⟨k,0,0,0⟩
theorem nf {L M:List Ac} (h:L.length=M.length) (hk:∀ j,j < L.length→L[j]?=M[j]?):L=M:=List.ext_getElem? fun i=>by
 by_cases hi:i < L.length
 ·exact hk i hi
 ·rw [List.getElem?_eq_none (by omega),List.getElem?_eq_none (by omega)]
theorem empty_any (st k n:Int) (ks:List Int) (kv:Value) (w:World) (hl:ks.length≤100) (hr:bT w kv 1 ks.length (ks.map (Value.int .i64))) :
  Calls Tryz.prog 101 #[.int .i64 st,.agg #[.int .i64 k,.int .i64 n],kv] w fun e w'=>∃ u,e=.returned (eJ ⟨st,k,n,false,ks.map iw,u⟩)∧w'.ownsRow w.heap.size 192 4 u ks.length (rowOf bM (ks.map iw))∧Below w.heap.size w w':=by
 obtain ⟨i0,hi,hz0,hz1,hz2⟩:=info_parts infoA;obtain ⟨ao,cap,rfl⟩:=aq hr
 go_enter Tryz.func101,Tryz.ntmps101
 go_wp2_with (at_make;go_must (refine wpList_make_full _ rfl _ _ 82 rfl w.heap.size 192 i0 (.agg #[.int .i64 0,.int .i64 0,.int .i64 0,.int .i64 0]) 4 Tryz.underlying82 hi hz0 hz1 .i64 .i64 _ _ ks.length rfl rfl rfl rfl (by rw [hz2];omega) (by show _≤2 ^ 63 - 1;omega) (by simp;omega) ?_))
 intro w1 ho hg;have hb1:Below ((w.alloc (.cells #[.int .i64 k,.int .i64 n] 41)).alloc (.cells #[.int .i64 0,.int .i64 0,.int .i64 0,.slice none 0 0,.bool false] 84)).heap.size ((w.alloc (.cells #[.int .i64 k,.int .i64 n] 41)).alloc (.cells #[.int .i64 0,.int .i64 0,.int .i64 0,.slice none 0 0,.bool false] 84)) w1:=(Below.refl _ _).grown hg (Nat.le_refl _) (fun k hk=>by cases hk);have B0:=aa (ai (ai (aM w [.int .i64 k,.int .i64 n] 41 (by simp)) ((Below.refl _ _).alloc (Nat.le_refl _) (.cells #[.int .i64 0,.int .i64 0,.int .i64 0,.slice none 0 0,.bool false] 84)) (by simp)) hb1 (by simp;omega));have B1:=aa (ai (aM (w.alloc (.cells #[.int .i64 k,.int .i64 n] 41)) [.int .i64 0,.int .i64 0,.int .i64 0,.slice none 0 0,.bool false] 84 (by simp)) hb1 (by simp));rw [show (w.alloc (.cells #[.int .i64 k,.int .i64 n] 41)).heap.size=w.heap.size+1 from by simp] at B1;have HB:Hid (Below w.heap.size w w1):=(((Below.refl w.heap.size w).alloc (Nat.le_refl _) _).alloc (by simp) _).trans (hb1.mono (by simp;omega));have ho':w1.ownsRow w.heap.size 192 4 (.slice (some ⟨w.heap.size+1+1,0,none⟩) ks.length ks.length) ks.length (rowOf bM (List.replicate ks.length ⟨0,0,0,0⟩)):=by
  rw [← made_accs];exact ho
 have HO:=aa ho';have HR:=aa hr;clear hb1 ho ho' hg hr;go_wp2_with fail
 go_loopw [15] (fun i wr=>∃ (m:Nat) (L:List Ac),m≤ks.length∧L.length=ks.length∧i=.int .i64 m∧Hid (∀ j,j < m→L[j]?=(ks.map iw)[j]?)∧Hid (wr.ownsRow w.heap.size 192 4 (.slice (some ⟨w.heap.size+1+1,0,none⟩) ks.length ks.length) ks.length (rowOf bM L))∧Hid (BlkAt wr w.heap.size [.int .i64 k,.int .i64 n])∧Hid (BlkAt wr (w.heap.size+1) [.int .i64 0,.int .i64 0,.int .i64 0,.slice none 0 0,.bool false])∧Hid (Below w.heap.size w wr)) (fun i _=>ks.length - (intOf i).toNat)
 case atStart=>exact ⟨0,List.replicate ks.length ⟨0,0,0,0⟩,Nat.zero_le _,by simp,rfl,fun j hj=>absurd hj (by omega),HO,B0,B1,HB⟩
 case round =>
  clear HO B0 B1 HB;obtain ⟨m,L,hm,hL,rfl,HM,HO,B0,B1,HB⟩:=hrel
  by_cases hlt:m < ks.length
  ·obtain ⟨g,off,x,rfl,hx,x0,q1,q2,q3⟩:=db (aA HR.out HB.out) m hlt;obtain ⟨km,rfl,HKM⟩:∃ km,x=.int .i64 km∧Hid ((ks.map iw)[m]?=some (iw km)):=by
    rw [List.getElem?_map,List.getElem?_eq_getElem hlt] at hx;simp only [Option.map_some,Option.some.injEq] at hx;refine ⟨ks[m],hx.symm,?_⟩
    show _=_
    rw [List.getElem?_map,List.getElem?_eq_getElem hlt]
    rfl
   clear hx;unfold maxLen at q2;have GN:=aa (fun w=>gnew_any km w);unfold m8 at GN
   simp only at GN
   go_wp2_with fail;refine (GN.out _).mono ?_;rintro e w2 ⟨rfl,hb⟩;have HO2:=aa (aC HO.out hb (Nat.le_refl _));have B02:=aa (ai B0.out hb B0.out.lt);have B12:=aa (ai B1.out hb B1.out.lt);have HB2:=nxt HB hb;clear hb HO B0 B1 HB x0;have s0:=HO2.out.cellAt (m * 4) (by omega);have s1:=HO2.out.cellAt (m * 4+1) (by omega);have s2:=HO2.out.cellAt (m * 4+2) (by omega);have s3:=HO2.out.cellAt (m * 4+3) (by omega);have hrl:(rowOf bM L).length=ks.length * 4:=by rw [bo bV,hL]
   rw [List.getElem?_eq_getElem (by omega)] at s0 s1 s2 s3;generalize (rowOf bM L)[m * 4]=r0 at s0;generalize (rowOf bM L)[m * 4+1]=r1 at s1;generalize (rowOf bM L)[m * 4+2]=r2 at s2;generalize (rowOf bM L)[m * 4+3]=r3 at s3;have z0:=aQ HO2.out (m * 4);have z1:=aQ HO2.out (m * 4+1);have z2:=aQ HO2.out (m * 4+2);have z3:=aQ HO2.out (m * 4+3);have HO3:=aa (b7 (b7 (b7 (b7 HO2.out (m * 4) (.int .i64 km)) (m * 4+1) (.int .i64 0)) (m * 4+2) (.int .i64 0)) (m * 4+3) (.int .i64 0));rw [mz L m ⟨km,0,0,0⟩ (by omega)] at HO3;have B03:=aa (aR (aR (aR (aR B02.out (g':=w.heap.size+1+1) (by omega) (m * 4) (.int .i64 km)) (g':=w.heap.size+1+1) (by omega) (m * 4+1) (.int .i64 0)) (g':=w.heap.size+1+1) (by omega) (m * 4+2) (.int .i64 0)) (g':=w.heap.size+1+1) (by omega) (m * 4+3) (.int .i64 0));have B13:=aa (aR (aR (aR (aR B12.out (g':=w.heap.size+1+1) (by omega) (m * 4) (.int .i64 km)) (g':=w.heap.size+1+1) (by omega) (m * 4+1) (.int .i64 0)) (g':=w.heap.size+1+1) (by omega) (m * 4+2) (.int .i64 0)) (g':=w.heap.size+1+1) (by omega) (m * 4+3) (.int .i64 0));have HB3:=aa ((((HB2.out.setCell (p:=⟨w.heap.size+1+1,m * 4,none⟩) (by simp;omega) (.int .i64 km)).setCell (p:=⟨w.heap.size+1+1,m * 4+1,none⟩) (by simp;omega) (.int .i64 0)).setCell (p:=⟨w.heap.size+1+1,m * 4+2,none⟩) (by simp;omega) (.int .i64 0)).setCell (p:=⟨w.heap.size+1+1,m * 4+3,none⟩) (by simp;omega) (.int .i64 0));have HLL:=aa hL;clear HO2 B02 B12 HB2 hL hrl;go_wp2_with fail;go_roundw
   case rel=>exact ⟨m+1,L.set m (iw km),by omega,by simpa using HLL.out,by go_num,fun j hj=>by
     by_cases h9:j=m
     ·subst h9;rw [HKM.out,List.getElem?_set]
      simp [HLL.out,hlt]
     ·rw [List.getElem?_set,if_neg (fun e=>h9 e.symm)];exact HM.out j (by omega),HO3,B03,B13,HB3⟩
   case measure=>simp [intOf];omega
  ·have hme:m=ks.length:=by omega
   subst hme;have HLe:Hid (L=ks.map iw):=nf (by simp [hL]) (fun j hj=>HM.out j (by omega));have d0:wr.cell? ⟨w.heap.size,0,none⟩=some (.int .i64 k):=B0.out.c 0 (by simp);have d1:wr.cell? ⟨w.heap.size,1,none⟩=some (.int .i64 n):=B0.out.c 1 (by simp);have g0:wr.cell? ⟨w.heap.size+1,0,none⟩=some (.int .i64 0):=B1.out.c 0 (by simp);have g1:wr.cell? ⟨w.heap.size+1,1,none⟩=some (.int .i64 0):=B1.out.c 1 (by simp);have g2:wr.cell? ⟨w.heap.size+1,2,none⟩=some (.int .i64 0):=B1.out.c 2 (by simp);have g3:wr.cell? ⟨w.heap.size+1,3,none⟩=some (.slice none 0 0):=B1.out.c 3 (by simp);have g4:wr.cell? ⟨w.heap.size+1,4,none⟩=some (.bool false):=B1.out.c 4 (by simp);have z:=B1.out.fz;have z0:=z 0;have z1:=z 1;have z2:=z 2;have z3:=z 3;have z4:=z 4;have NE:Hid ((Value.slice (some ⟨w.heap.size+1+1,0,none⟩) ks.length ks.length).ownBlock≠some (w.heap.size+1)):=by
    show _≠_
    simp [Value.ownBlock]
   rw [HLe.out] at HO;clear z hL HLe;go_wp2_with fail;refine bodyPost_ret (v:=.agg #[.int .i64 st,.int .i64 k,.int .i64 n,.slice (some ⟨w.heap.size+1+1,0,none⟩) ks.length ks.length,.bool false]) (by simp [results,Tryz.results101,go_sem,g0,g1,g2,g3,g4]) rfl ⟨_,rfl,?_,?_⟩
   ·iterate 5 (refine ownsRow_setCell_other ?_ NE.out _)
    exact HO.out
   ·iterate 5 (refine Below.setCell ?_ (by first | (simp;done) | (simp;omega)) _)
    exact HB.out
theorem nb (p:Pn) (vs:List V2) (vv:Value) (w:World) (hl:p.ac.length≤100) (hr:jF w p) (hk:∀ a∈p.ac,1≤a.k∧a.k≤5∧0≤a.n∧a.n≤1000) (hv:bT w vv 2 vs.length (cB vs)) (hvl:vs.length=p.ac.length) :
  Calls Tryz.prog 102 #[eJ p,vv] w fun e w'=>∃ u,e=.returned (eJ ⟨p.st,p.k,p.n,p.told,dD p.ac vs,u⟩)∧w'.ownsRow w.heap.size 192 4 u p.ac.length (rowOf bM (dD p.ac vs))∧Below w.heap.size w w':=by
 obtain ⟨aov,capv,rfl⟩:=aq hv;obtain ⟨st,k,n,told,ac,av⟩:=p;obtain ⟨ao,cap0,hav⟩:=aF hr
 simp only at hav hl hk hvl
 subst hav;have HV:=aa hv;have HVL:=aa hvl;rw [hvl];clear hv hvl;have hA:Below w.heap.size w ((w.alloc (.cells #[.int .i64 st,.int .i64 k,.int .i64 n,.slice ao ac.length cap0,.bool told] 84)).alloc (.cells #[.int .i64 0,.int .i64 0,.int .i64 0,.slice none 0 0,.bool false] 84)):=((Below.refl _ _).alloc (Nat.le_refl _) _).alloc (by simp) _;have OW:=aa (mo ⟨st,k,n,told,ac,.slice ao ac.length cap0⟩ _ (by simp only;omega) (bp hr hA));have HB:=aa hA;have HK:=aa hk;have B0:=ai (aM w [.int .i64 st,.int .i64 k,.int .i64 n,.slice ao ac.length cap0,.bool told] 84 (by simp)) ((Below.refl _ _).alloc (Nat.le_refl _) (.cells #[.int .i64 0,.int .i64 0,.int .i64 0,.slice none 0 0,.bool false] 84)) (by simp);have B1:=aM (w.alloc (.cells #[.int .i64 st,.int .i64 k,.int .i64 n,.slice ao ac.length cap0,.bool told] 84)) [.int .i64 0,.int .i64 0,.int .i64 0,.slice none 0 0,.bool false] 84 (by simp);rw [show (w.alloc (.cells #[.int .i64 st,.int .i64 k,.int .i64 n,.slice ao ac.length cap0,.bool told] 84)).heap.size=w.heap.size+1 from by simp] at B1;have HB0:=aa B0;have HB1:=aa B1;unfold eJ at OW ⊢
 simp only at OW ⊢
 clear hA hr hk B0 B1
 go_enter Tryz.func102,Tryz.ntmps102
 go_wp2_with fail;refine OW.out.mono ?_;rintro e w1 ⟨u,rfl,ho,hb⟩;obtain ⟨aou,capu,rfl⟩:=ax ho;have ne0:(Value.slice aou ac.length capu).ownBlock≠some w.heap.size:=fun e=>by have:=(aJ ho _ e).1;simp at this;omega
 have ne1:(Value.slice aou ac.length capu).ownBlock≠some (w.heap.size+1):=fun e=>by have:=(aJ ho _ e).1;simp at this;omega
 have HO:=aa (aN (base':=w.heap.size) ho (by simp;omega));have C0:=ai HB0.out hb HB0.out.lt;have C1:=aa (ai HB1.out hb HB1.out.lt);have HB:=nxt HB hb;have d0:w1.cell? ⟨w.heap.size,0,none⟩=some (.int .i64 st):=C0.c 0 (by simp);have d1:w1.cell? ⟨w.heap.size,1,none⟩=some (.int .i64 k):=C0.c 1 (by simp);have d2:w1.cell? ⟨w.heap.size,2,none⟩=some (.int .i64 n):=C0.c 2 (by simp);have d3:w1.cell? ⟨w.heap.size,3,none⟩=some (.slice ao ac.length cap0):=C0.c 3 (by simp);have d4:w1.cell? ⟨w.heap.size,4,none⟩=some (.bool told):=C0.c 4 (by simp);have z0:=C0.fz 0;have z1:=C0.fz 1;have z2:=C0.fz 2;have z3:=C0.fz 3;have z4:=C0.fz 4;have NE:=aa (And.intro ne0 ne1);have HC0:=aa C0;have dmin:decide ((ac.length:Int) < (ac.length:Int))=false:=by simp
 have D0:Hid (BlkAt (((((w1.setCell ⟨w.heap.size,0,none⟩ (.int .i64 st)).setCell ⟨w.heap.size,1,none⟩ (.int .i64 k)).setCell ⟨w.heap.size,2,none⟩ (.int .i64 n)).setCell ⟨w.heap.size,3,none⟩ (.slice aou ac.length capu)).setCell ⟨w.heap.size,4,none⟩ (.bool told)) w.heap.size [.int .i64 st,.int .i64 k,.int .i64 n,.slice aou ac.length capu,.bool told]):=(ay (ay (ay (ay (ay C0 0 (.int .i64 st) (by simp)) 1 (.int .i64 k) (by simp)) 2 (.int .i64 n) (by simp)) 3 (.slice aou ac.length capu) (by simp)) 4 (.bool told) (by simp));have D1:Hid (BlkAt (((((w1.setCell ⟨w.heap.size,0,none⟩ (.int .i64 st)).setCell ⟨w.heap.size,1,none⟩ (.int .i64 k)).setCell ⟨w.heap.size,2,none⟩ (.int .i64 n)).setCell ⟨w.heap.size,3,none⟩ (.slice aou ac.length capu)).setCell ⟨w.heap.size,4,none⟩ (.bool told)) (w.heap.size+1) [.int .i64 0,.int .i64 0,.int .i64 0,.slice none 0 0,.bool false]):=(aR (aR (aR (aR (aR C1.out (g':=w.heap.size) (by omega) 0 (.int .i64 st)) (g':=w.heap.size) (by omega) 1 (.int .i64 k)) (g':=w.heap.size) (by omega) 2 (.int .i64 n)) (g':=w.heap.size) (by omega) 3 (.slice aou ac.length capu)) (g':=w.heap.size) (by omega) 4 (.bool told));have DB:Hid (Below w.heap.size w (((((w1.setCell ⟨w.heap.size,0,none⟩ (.int .i64 st)).setCell ⟨w.heap.size,1,none⟩ (.int .i64 k)).setCell ⟨w.heap.size,2,none⟩ (.int .i64 n)).setCell ⟨w.heap.size,3,none⟩ (.slice aou ac.length capu)).setCell ⟨w.heap.size,4,none⟩ (.bool told))):=(((((HB.out.setCell (p:=⟨w.heap.size,0,none⟩) (Nat.le_refl _) (.int .i64 st)).setCell (p:=⟨w.heap.size,1,none⟩) (Nat.le_refl _) (.int .i64 k)).setCell (p:=⟨w.heap.size,2,none⟩) (Nat.le_refl _) (.int .i64 n)).setCell (p:=⟨w.heap.size,3,none⟩) (Nat.le_refl _) (.slice aou ac.length capu)).setCell (p:=⟨w.heap.size,4,none⟩) (Nat.le_refl _) (.bool told));have DO:=aa (ownsRow_setCell_other (a:=⟨w.heap.size,4,none⟩) (ownsRow_setCell_other (a:=⟨w.heap.size,3,none⟩) (ownsRow_setCell_other (a:=⟨w.heap.size,2,none⟩) (ownsRow_setCell_other (a:=⟨w.heap.size,1,none⟩) (ownsRow_setCell_other (a:=⟨w.heap.size,0,none⟩) HO.out NE.out.1 (.int .i64 st)) NE.out.1 (.int .i64 k)) NE.out.1 (.int .i64 n)) NE.out.1 (.slice aou ac.length capu)) NE.out.1 (.bool told));clear ho hb ne0 ne1 C0 C1 HC0 HB0 HB1 OW HB HO;go_wp2_with fail;clear d0 d1 d2 d3 d4 z0 z1 z2 z3 z4 dmin
 go_loopw [14] (fun i wr=>∃ (m:Nat) (L:List Ac),m≤ac.length∧L.length=ac.length∧i=.int .i64 m∧Hid (∀ j,j < m→L[j]?=(dD ac vs)[j]?)∧Hid (∀ j,m≤j→L[j]?=ac[j]?)∧Hid (wr.ownsRow w.heap.size 192 4 (.slice aou ac.length capu) ac.length (rowOf bM L))∧Hid (BlkAt wr w.heap.size [.int .i64 st,.int .i64 k,.int .i64 n,.slice aou ac.length capu,.bool told])∧Hid (BlkAt wr (w.heap.size+1) [.int .i64 0,.int .i64 0,.int .i64 0,.slice none 0 0,.bool false])∧Hid (Below w.heap.size w wr)) (fun i _=>ac.length - (intOf i).toNat)
 case atStart=>exact ⟨0,ac,Nat.zero_le _,rfl,rfl,fun j hj=>absurd hj (by omega),fun j _=>rfl,DO,D0,D1,DB⟩
 case round =>
  clear DO D0 D1 DB;obtain ⟨m,L,hm,hL,rfl,HM,HN,HO,B0,B1,HB⟩:=hrel
  by_cases hlt:m < ac.length
  ·obtain ⟨g,cap,hv,gb,lg,gc,gm⟩:=fM HO.out (by omega);injection hv with e1 e2 e3
   subst e1 e3;have hvl:=HVL.out;obtain ⟨gv,ov,rfl,hcv,u1,u2,u3⟩:=bA (f:=ex) jP HV.out m (by omega);have HAD:Hid ((dD ac vs)[m]?=some (jE ac[m] (vs[m]'(by omega)))):=by
    show _=_
    simp [dD,List.getElem?_zipWith,hlt,hvl]
   have hLm:L[m]?=some ac[m]:=by rw [HN.out m (Nat.le_refl _),List.getElem?_eq_getElem hlt]
   have hkm:=HK.out ac[m] (List.getElem_mem hlt);generalize ac[m]=a at *;generalize (vs[m]'(by omega))=v at *;obtain ⟨a1,a2,a3,a4⟩:=a;obtain ⟨v1,v2⟩:=v;have x0:wr.cell? ⟨g,m * 4,none⟩=some (.int .i64 a1):=by rw [HO.out.cellAt (m * 4) (by omega)];exact bU bV L m 0 _ hLm (by omega)
   have x1:wr.cell? ⟨g,m * 4+1,none⟩=some (.int .i64 a2):=by rw [HO.out.cellAt (m * 4+1) (by omega)];exact bU bV L m 1 _ hLm (by omega)
   have x2:wr.cell? ⟨g,m * 4+2,none⟩=some (.int .i64 a3):=by rw [HO.out.cellAt (m * 4+2) (by omega)];exact bU bV L m 2 _ hLm (by omega)
   have x3:wr.cell? ⟨g,m * 4+3,none⟩=some (.int .i64 a4):=by rw [HO.out.cellAt (m * 4+3) (by omega)];exact bU bV L m 3 _ hLm (by omega)
   have hwv:=HB.out.cell (p:=⟨gv,ov+m * 2,none⟩) u3;have hwv1:=HB.out.cell (p:=⟨gv,ov+m * 2+1,none⟩) u3;have y0:wr.cell? ⟨gv,ov+m * 2,none⟩=some (.int .i64 v1):=hwv.trans (hcv 0 (by omega));have y1:wr.cell? ⟨gv,ov+m * 2+1,none⟩=some (.int .i64 v2):=hwv1.trans (hcv 1 (by omega));have lv:gv < wr.heap.size:=Nat.lt_of_lt_of_le u3 HB.out.size;have lb0:=B0.out.lt;have c3:wr.cell? ⟨w.heap.size,3,none⟩=some (.slice (some ⟨g,0,none⟩) ac.length capu):=B0.out.c 3 (by simp);have gn0:g≠w.heap.size:=fun e=>NE.out.1 (by subst e;rfl)
   have gn1:g≠w.heap.size+1:=fun e=>NE.out.2 (by subst e;rfl)
   have GA:=aa (fun w=>gadd_any a1 a2 a3 a4 v1 v2 w hkm.1 hkm.2.1 hkm.2.2.1 hkm.2.2.2);unfold m8 at GA;have eA:jE ⟨a1,a2,a3,a4⟩ (v1,v2)=⟨a1,(gstep a1 (a2,a3,a4) (v1,v2)).1,(gstep a1 (a2,a3,a4) (v1,v2)).2.1,(gstep a1 (a2,a3,a4) (v1,v2)).2.2⟩:=rfl;rw [eA] at HAD;generalize gstep a1 (a2,a3,a4) (v1,v2)=G at *;obtain ⟨G1,G2,G3⟩:=G
   simp only at GA HAD
   rw [hvl] at u1;unfold maxLen at gm u2;have hS:Below wr.heap.size wr { wr with drawn:=wr.drawn+1 }:=(Below.refl _ _).drew;clear eA hwv hwv1 hcv hLm hvl hkm;go_wp2_with fail;refine aV (Below wr.heap.size wr) 14 (by kernel_rfl) ?_;generalize hwd:({ wr with drawn:=wr.drawn+1 }:World)=wd at *;clear hwd;refine LU 0 (v:=.pointer (some ⟨w.heap.size,3,none⟩)) [1,13,14] rfl (fun wq hq=>by go_simp) hS ?_;refine LU 1 (v:=.slice (some ⟨g,0,none⟩) ac.length capu) [13,14] rfl (fun wq hq=>by have q:=hq.cell (p:=⟨w.heap.size,3,none⟩) lb0;rw [c3] at q;go_simp) hS ?_;refine LU 2 (v:=.int .i64 (m:Int)) [13,14] rfl (fun wq hq=>by go_simp) hS ?_;refine LU 3 (v:=.pointer (some ⟨w.heap.size,3,none⟩)) [4,6,7,12,14] rfl (fun wq hq=>by go_simp) hS ?_;refine LU 4 (v:=.slice (some ⟨g,0,none⟩) ac.length capu) [6,7,12,14] rfl (fun wq hq=>by have q:=hq.cell (p:=⟨w.heap.size,3,none⟩) lb0;rw [c3] at q;go_simp) hS ?_;refine LU 5 (v:=.int .i64 (m:Int)) [6,7,12,14] rfl (fun wq hq=>by go_simp) hS ?_;refine LU 6 (v:=.pointer (some ⟨g,m * 4,none⟩)) [7,12,14] rfl (fun wq hq=>by go_simp) hS ?_;refine LU 7 (v:=.agg #[.int .i64 a1,.int .i64 a2,.int .i64 a3,.int .i64 a4]) [12,14] rfl (fun wq hq=>by have q0:=hq.cell (p:=⟨g,m * 4,none⟩) lg;rw [x0] at q0;have q1:=hq.cell (p:=⟨g,m * 4+1,none⟩) lg;rw [x1] at q1;have q2:=hq.cell (p:=⟨g,m * 4+2,none⟩) lg;rw [x2] at q2;have q3:=hq.cell (p:=⟨g,m * 4+3,none⟩) lg;rw [x3] at q3;go_simp) hS ?_;refine LU 8 (v:=.slice (some ⟨gv,ov,none⟩) ac.length capv) [10,11,12,14] rfl (fun wq hq=>by go_simp) hS ?_;refine LU 9 (v:=.int .i64 (m:Int)) [10,11,12,14] rfl (fun wq hq=>by go_simp) hS ?_;refine LU 10 (v:=.pointer (some ⟨gv,ov+m * 2,none⟩)) [11,12,14] rfl (fun wq hq=>by go_simp) hS ?_;refine LU 11 (v:=.agg #[.int .i64 v1,.int .i64 v2]) [12,14] rfl (fun wq hq=>by have q0:=hq.cell (p:=⟨gv,ov+m * 2,none⟩) lv;rw [y0] at q0;have q1:=hq.cell (p:=⟨gv,ov+m * 2+1,none⟩) lv;rw [y1] at q1;go_simp) hS ?_;refine LG 12 rfl ?_;intro K' hK;go_simp;refine (GA.out _).mono ?_;rintro e w2 ⟨rfl,hb⟩;have hb2:Below wr.heap.size wr w2:=hS.trans (hb.mono hS.size);refine hK _ _ ⟨fun _=>hb2,?_⟩;clear hK hb;refine LG 13 rfl ?_;intro K' hK;go_simp;refine hK _ _ ⟨fun _=>hb2,?_⟩;clear hK;refine LG 14 rfl ?_;intro K' hK;have HO2:=aa (aC HO.out hb2 (Nat.le_refl _));have s0:=HO2.out.cellAt (m * 4) (by omega);have s1:=HO2.out.cellAt (m * 4+1) (by omega);have s2:=HO2.out.cellAt (m * 4+2) (by omega);have s3:=HO2.out.cellAt (m * 4+3) (by omega);have hrl:(rowOf bM L).length=ac.length * 4:=by rw [bo bV,hL]
   rw [List.getElem?_eq_getElem (by omega)] at s0 s1 s2 s3;generalize (rowOf bM L)[m * 4]=r0 at s0;generalize (rowOf bM L)[m * 4+1]=r1 at s1;generalize (rowOf bM L)[m * 4+2]=r2 at s2;generalize (rowOf bM L)[m * 4+3]=r3 at s3;have z0:=aQ HO2.out (m * 4);have z1:=aQ HO2.out (m * 4+1);have z2:=aQ HO2.out (m * 4+2);have z3:=aQ HO2.out (m * 4+3);clear hrl;go_simp;refine hK _ _ ⟨fun h=>absurd rfl h,?_⟩;clear hK s0 s1 s2 s3 z0 z1 z2 z3;refine bI (by kernel_rfl) ?_ _;have HO3:=aa (b7 (b7 (b7 (b7 HO2.out (m * 4) (.int .i64 a1)) (m * 4+1) (.int .i64 G1)) (m * 4+2) (.int .i64 G2)) (m * 4+3) (.int .i64 G3));rw [mz L m ⟨a1,G1,G2,G3⟩ (by omega)] at HO3;have B03:=aa (aR (aR (aR (aR (ai B0.out hb2 B0.out.lt) (g':=g) gn0 (m * 4) (.int .i64 a1)) (g':=g) gn0 (m * 4+1) (.int .i64 G1)) (g':=g) gn0 (m * 4+2) (.int .i64 G2)) (g':=g) gn0 (m * 4+3) (.int .i64 G3));have B13:=aa (aR (aR (aR (aR (ai B1.out hb2 B1.out.lt) (g':=g) gn1 (m * 4) (.int .i64 a1)) (g':=g) gn1 (m * 4+1) (.int .i64 G1)) (g':=g) gn1 (m * 4+2) (.int .i64 G2)) (g':=g) gn1 (m * 4+3) (.int .i64 G3));have HB3:=aa (((((nxt HB hb2).out.setCell (p:=⟨g,m * 4,none⟩) gb (.int .i64 a1)).setCell (p:=⟨g,m * 4+1,none⟩) gb (.int .i64 G1)).setCell (p:=⟨g,m * 4+2,none⟩) gb (.int .i64 G2)).setCell (p:=⟨g,m * 4+3,none⟩) gb (.int .i64 G3));have HLL:=aa hL;clear HO2 B0 B1 HB HO hL hb2;go_wp2_with fail;go_roundw
   case rel=>exact ⟨m+1,L.set m ⟨a1,G1,G2,G3⟩,by omega,by simpa using HLL.out,by go_num,fun j hj=>by
     by_cases h9:j=m
     ·subst h9;rw [HAD.out,List.getElem?_set]
      simp [HLL.out,hlt]
     ·rw [List.getElem?_set,if_neg (fun e=>h9 e.symm)];exact HM.out j (by omega),fun j hj=>by
     rw [List.getElem?_set,if_neg (by omega)];exact HN.out j (by omega),HO3,B03,B13,HB3⟩
   case measure=>simp [intOf];omega
  ·have hme:m=ac.length:=by omega
   subst hme;have HLe:Hid (L=dD ac vs):=nf (by simp [dD,hL,HVL.out]) (fun j hj=>HM.out j (by omega));have d0:wr.cell? ⟨w.heap.size,0,none⟩=some (.int .i64 st):=B0.out.c 0 (by simp);have d1:wr.cell? ⟨w.heap.size,1,none⟩=some (.int .i64 k):=B0.out.c 1 (by simp);have d2:wr.cell? ⟨w.heap.size,2,none⟩=some (.int .i64 n):=B0.out.c 2 (by simp);have d3:wr.cell? ⟨w.heap.size,3,none⟩=some (.slice aou ac.length capu):=B0.out.c 3 (by simp);have d4:wr.cell? ⟨w.heap.size,4,none⟩=some (.bool told):=B0.out.c 4 (by simp);have g0:wr.cell? ⟨w.heap.size+1,0,none⟩=some (.int .i64 0):=B1.out.c 0 (by simp);have g1:wr.cell? ⟨w.heap.size+1,1,none⟩=some (.int .i64 0):=B1.out.c 1 (by simp);have g2:wr.cell? ⟨w.heap.size+1,2,none⟩=some (.int .i64 0):=B1.out.c 2 (by simp);have g3:wr.cell? ⟨w.heap.size+1,3,none⟩=some (.slice none 0 0):=B1.out.c 3 (by simp);have g4:wr.cell? ⟨w.heap.size+1,4,none⟩=some (.bool false):=B1.out.c 4 (by simp);have z:=B1.out.fz;have z0:=z 0;have z1:=z 1;have z2:=z 2;have z3:=z 3;have z4:=z 4;rw [HLe.out] at HO;clear z hL HLe;go_wp2_with fail;refine bodyPost_ret (v:=.agg #[.int .i64 st,.int .i64 k,.int .i64 n,.slice aou ac.length capu,.bool told]) (by simp [results,Tryz.results102,go_sem,g0,g1,g2,g3,g4]) rfl ⟨_,rfl,?_,?_⟩
   ·iterate 5 (refine ownsRow_setCell_other ?_ NE.out.2 _)
    exact HO.out
   ·iterate 5 (refine Below.setCell ?_ (by first | (simp;done) | (simp;omega)) _)
    exact HB.out
def orI (a b:Int):Int:=if a=0 then b else a
theorem cmpOr_any (a b:Int) (g:Nat) (w:World) (x0:w.cell? ⟨g,0,none⟩=some (.int .i64 a)) (x1:w.cell? ⟨g,1,none⟩=some (.int .i64 b)) :
  Calls Tryz.prog 135 #[.slice (some ⟨g,0,none⟩) 2 2] w fun e w'=>e=.returned (.int .i64 (orI a b))∧w'=w:=by
 go_enter Tryz.func135,Tryz.ntmps135
 go_wp2_with fail
 go_loopw [8] (fun i wr=>∃ m:Nat,m≤2∧i=.int .i64 m∧(1≤m→a=0)∧(2≤m→b=0)∧wr=w) (fun i _=>2 - (intOf i).toNat)
 case atStart=>exact ⟨0,by omega,rfl,fun h=>absurd h (by omega),fun h=>absurd h (by omega),rfl⟩
 case round =>
  obtain ⟨m,hm,rfl,h1,h2,rfl⟩:=hrel
  rcases (by omega:m=0∨m=1∨m=2) with rfl | rfl | rfl
  ·by_cases ha:a=0
   ·subst ha;go_wp2_with fail;go_roundw
    case rel=>exact ⟨1,by omega,by go_num,fun _=>(by first | rfl | trivial),fun h=>absurd h (by omega),(by first | rfl | trivial)⟩
    case measure=>simp [intOf]
   ·have hb:(a != 0)=true:=by simp [ha]
    go_wp2_with fail
    go_ret
    exact ⟨fk (by unfold orI;rw [if_neg ha]),rfl⟩
  ·have ha:=h1 (by omega);subst ha
   by_cases hbb:b=0
   ·subst hbb;go_wp2_with fail;go_roundw
    case rel=>exact ⟨2,by omega,by go_num,fun _=>(by first | rfl | trivial),fun _=>(by first | rfl | trivial),(by first | rfl | trivial)⟩
    case measure=>simp [intOf]
   ·have hb:(b != 0)=true:=by simp [hbb]
    go_wp2_with fail
    go_ret
    exact ⟨fk (by unfold orI;rw [if_pos rfl]),rfl⟩
  ·have ha:=h1 (by omega);have hb:=h2 (by omega);subst ha hb;go_wp2_with fail
   go_ret
   exact ⟨fk (by unfold orI;rw [if_pos rfl]),rfl⟩
def pcmp (st k n:Int) (p:Pn):Int:=orI (ms st p.st) (vcmp k n p.k p.n)
theorem find1_any (i:Nat) (ps:List Pn) (ao:Option Addr) (cap:Nat) (st k n:Int) (bs bt bk:Nat) (w:World) (ht:w.cell? ⟨bt,0,none⟩=some (.slice ao ps.length cap)) (hs:w.cell? ⟨bs,0,none⟩=some (.int .i64 st))
  (hk0:w.cell? ⟨bk,0,none⟩=some (.int .i64 k)) (hk1:w.cell? ⟨bk,1,none⟩=some (.int .i64 n)) (lt:bt < w.heap.size) (ls:bs < w.heap.size) (lk:bk < w.heap.size)
  (hr:bT w (.slice ao ps.length cap) 5 ps.length (rowOf aG ps)) (hi:i < ps.length) (hl:ps.length≤1000) :
  Calls Tryz.prog 134 #[.int .i64 i,.pointer (some ⟨bs,0,none⟩),.pointer (some ⟨bt,0,none⟩),.pointer (some ⟨bk,0,none⟩)] w fun e w'=>e=.returned (.int .i64 (pcmp st k n ps[i]))∧Below w.heap.size w w':=by
 obtain ⟨g,off,rfl,hcell,q1,q2,lg⟩:=bA aW hr i hi;generalize ps[i]=p at *;obtain ⟨p1,p2,p3,p4,p5,p6⟩:=p;have x0:w.cell? ⟨g,off+i * 5,none⟩=some (.int .i64 p1):=hcell 0 (by omega);have x1:w.cell? ⟨g,off+i * 5+1,none⟩=some (.int .i64 p2):=hcell 1 (by omega);have x2:w.cell? ⟨g,off+i * 5+1+1,none⟩=some (.int .i64 p3):=hcell 2 (by omega);unfold maxLen at q2;unfold pcmp
 simp only
 clear hcell hr;have hS:Below w.heap.size w { w with drawn:=w.drawn+1 }:=(Below.refl _ _).drew
 go_enter Tryz.func134,Tryz.ntmps134
 go_wp2_with fail;refine aV (Below w.heap.size w) 18 (by kernel_rfl) ?_;generalize hwd:({ w with drawn:=w.drawn+1 }:World)=wd at *;clear hwd;refine LU 0 (v:=.int .i64 st) [7,16,17,18] rfl (fun wq hq=>by have q:=hq.cell (p:=⟨bs,0,none⟩) ls;rw [hs] at q;go_simp) hS ?_;refine LU 1 (v:=.pointer (some ⟨bt,0,none⟩)) [2,4,5,6,7,16,17,18] rfl (fun wq hq=>by go_simp) hS ?_;refine LU 2 (v:=.slice (some ⟨g,off,none⟩) ps.length cap) [4,5,6,7,16,17,18] rfl (fun wq hq=>by have q:=hq.cell (p:=⟨bt,0,none⟩) lt;rw [ht] at q;go_simp) hS ?_;refine LU 3 (v:=.int .i64 (i:Int)) [4,5,6,7,16,17,18] rfl (fun wq hq=>by go_simp) hS ?_;refine LU 4 (v:=.pointer (some ⟨g,off+i * 5,none⟩)) [5,6,7,16,17,18] rfl (fun wq hq=>by go_simp) hS ?_;refine LU 5 (v:=.pointer (some ⟨g,off+i * 5,none⟩)) [6,7,16,17,18] rfl (fun wq hq=>by go_simp) hS ?_;refine LU 6 (v:=.int .i64 p1) [7,16,17,18] rfl (fun wq hq=>by have q:=hq.cell (p:=⟨g,off+i * 5,none⟩) lg;rw [x0] at q;go_simp) hS ?_;refine LU 9 (v:=.pointer (some ⟨bt,0,none⟩)) [10,12,13,14,15,16,17,18] rfl (fun wq hq=>by go_simp) hS ?_;refine LU 10 (v:=.slice (some ⟨g,off,none⟩) ps.length cap) [12,13,14,15,16,17,18] rfl (fun wq hq=>by have q:=hq.cell (p:=⟨bt,0,none⟩) lt;rw [ht] at q;go_simp) hS ?_;refine LU 11 (v:=.int .i64 (i:Int)) [12,13,14,15,16,17,18] rfl (fun wq hq=>by go_simp) hS ?_;refine LU 12 (v:=.pointer (some ⟨g,off+i * 5,none⟩)) [13,14,15,16,17,18] rfl (fun wq hq=>by go_simp) hS ?_;refine LU 13 (v:=.pointer (some ⟨g,off+i * 5+1,none⟩)) [14,15,16,17,18] rfl (fun wq hq=>by go_simp) hS ?_;refine LU 14 (v:=.agg #[.int .i64 p2,.int .i64 p3]) [15,16,17,18] rfl (fun wq hq=>by have q0:=hq.cell (p:=⟨g,off+i * 5+1,none⟩) lg;rw [x1] at q0;have q1:=hq.cell (p:=⟨g,off+i * 5+1+1,none⟩) lg;rw [x2] at q1;go_simp) hS ?_;refine LU 8 (v:=.agg #[.int .i64 k,.int .i64 n]) [15,16,17,18] rfl (fun wq hq=>by have q0:=hq.cell (p:=⟨bk,0,none⟩) lk;rw [hk0] at q0;have q1:=hq.cell (p:=⟨bk,1,none⟩) lk;rw [hk1] at q1;go_simp) hS ?_;refine LG 7 rfl ?_;intro K' hK;go_simp;refine (mg _ _ _).mono ?_;rintro e w2 ⟨rfl,rfl⟩;refine hK _ _ ⟨fun _=>hS,?_⟩;clear hK;refine LG 15 rfl ?_;intro K' hK;go_simp;refine (compare_any _ _ _ _ _).mono ?_;rintro e w2 ⟨rfl,hb⟩;have hS2:Below w.heap.size w w2:=hS.trans (hb.mono hS.size);refine hK _ _ ⟨fun _=>hS2,?_⟩;clear hK hb hS;refine LG 16 rfl ?_;intro K' hK;have hS3:=hS2.alloc hS2.size (.cells #[.int .i64 (ms st p1),.int .i64 (vcmp k n p2 p3)] 3);have BX:=aM w2 [.int .i64 (ms st p1),.int .i64 (vcmp k n p2 p3)] 3 (by simp);have c0:(w2.alloc (.cells #[.int .i64 (ms st p1),.int .i64 (vcmp k n p2 p3)] 3)).cell? ⟨w2.heap.size,0,none⟩=some (.int .i64 (ms st p1)):=BX.c 0 (by simp);have c1:(w2.alloc (.cells #[.int .i64 (ms st p1),.int .i64 (vcmp k n p2 p3)] 3)).cell? ⟨w2.heap.size,1,none⟩=some (.int .i64 (vcmp k n p2 p3)):=BX.c 1 (by simp);go_simp;refine hK _ _ ⟨fun _=>hS3,?_⟩;clear hK BX hS2;generalize hw3:w2.alloc (.cells #[.int .i64 (ms st p1),.int .i64 (vcmp k n p2 p3)] 3)=w3 at *
 clear hw3;generalize w2.heap.size=g3 at *;clear w2;refine LG 17 rfl ?_;intro K' hK;go_simp;refine (cmpOr_any _ _ _ _ c0 c1).mono ?_;rintro e w4 ⟨rfl,rfl⟩;refine hK _ _ ⟨fun _=>hS3,?_⟩;clear hK;refine LG 18 rfl ?_;intro K' hK;go_simp;refine hK _ _ ⟨fun _=>hS3,?_⟩;clear hK;refine bI (by kernel_rfl) ?_ _;go_wp2_with fail
 go_ret
 exact ⟨rfl,hS3⟩
theorem sfind_any (n:Nat) (c:Nat→Int) (p1 p2 p3:Value) (w:World) (hn:n≤1000) (hmon:∀ p q,p≤q→q < n→c p≤0→c q≤0)
  (hc:∀ q,q < n→∀ w',Below w.heap.size w w'→Calls Tryz.prog 134 #[.int .i64 q,p1,p2,p3] w' fun e w''=>e=.returned (.int .i64 (c q))∧Below w'.heap.size w' w'') :
  Calls Tryz.prog 133 #[.int .i64 n,.func (.func 134) #[] #[p1,p2,p3]] w fun e w'=>∃ i:Nat,i≤n∧(∀ q,q < i→0 < c q)∧(∀ q,i≤q→q < n→c q≤0)∧e=.returned (.tuple #[.int .i64 i,.bool (decide (i < n) && (c i == 0))])∧Below w.heap.size w w':=by
 have HC:=aa hc;have HM:=aa hmon;clear hc hmon
 go_enter Tryz.func133,Tryz.ntmps133
 go_wp2_with fail
 go_loopw [4,6] (fun i j wr=>∃ a b:Nat,a≤b∧b≤n∧i=.int .i64 a∧j=.int .i64 b∧Hid (∀ q,q < a→0 < c q)∧Hid (∀ q,b≤q→q < n→c q≤0)∧Hid (Below w.heap.size w wr)) (fun i j _=>(intOf j).toNat - (intOf i).toNat)
 case atStart=>exact ⟨0,n,Nat.zero_le _,Nat.le_refl _,rfl,rfl,fun q hq=>absurd hq (by omega),fun q h1 h2=>absurd h1 (by omega),Below.refl _ _⟩
 case round =>
  obtain ⟨a,b,hab,hbn,rfl,rfl,HA,HZ,HB⟩:=hrel
  by_cases hlt:a < b
  ·obtain ⟨h,hh,h1,h2⟩:∃ h:Nat,((a:Int)+b) / 2=(h:Int)∧a≤h∧h < b:=⟨(a+b) / 2,by omega,by omega,by omega⟩;have HH:=aa (HC.out h (by omega));have MO:=aa (fun q (hq:h≤q) (hq2:q < n)=>HM.out h q hq hq2);have MP:Hid (∀ q,q < h→0 < c h→0 < c q):=fun q hq h9=>by
    by_cases h8:0 < c q
    ·exact h8
    ·have:=HM.out q h (by omega) (by omega) (by omega)
     omega
   have CE:Hid (∀ q,q=h→c q=c h):=fun q e=>by rw [e]
   generalize c h=x at *;go_wp2_with fail;refine (HH.out _ HB.out).mono ?_;rintro e w2 ⟨rfl,hb⟩;have HB2:=nxt HB hb;clear hb HB
   by_cases hx:0 < x
   ·have dx:decide (0 < x)=true:=by simp [hx]
    go_wp2_with fail;go_roundw
    case rel=>exact ⟨h+1,b,by omega,hbn,by go_num,rfl,fun q hq=>by
      by_cases h9:q=h
      ·rw [CE.out q h9];exact hx
      ·exact MP.out q (by omega) hx,HZ,HB2⟩
    case measure=>simp [intOf];omega
   ·have dx:decide (0 < x)=false:=by simp;omega
    go_wp2_with fail;go_roundw
    case rel=>exact ⟨a,h,h1,by omega,rfl,by go_num,HA,fun q hq hq2=>MO.out q hq hq2 (by omega),HB2⟩
    case measure=>simp [intOf];omega
  ·have hae:a=b:=by omega
   subst hae
   by_cases hq:a < n
   ·have HH:=aa (HC.out a hq);have dn:decide ((a:Int) < (n:Int))=true:=by simp;omega
    have RE:Hid ((decide (a < n) && (c a == 0))=(c a == 0)):=by
     show _=_
     simp [hq]
    go_wp2_with fail;refine (HH.out _ HB.out).mono ?_;rintro e w2 ⟨rfl,hb⟩;have HB2:=nxt HB hb;clear hb HB;go_wp2_with fail;refine bodyPost_ret (v:=.tuple #[.int .i64 a,.bool (c a == 0)]) (by simp [results,Tryz.results133,go_sem]) rfl ⟨a,hbn,HA.out,HZ.out,by rw [RE.out],HB2.out⟩
   ·have dn:decide ((a:Int) < (n:Int))=false:=by simp;omega
    have RE:Hid ((decide (a < n) && (c a == 0))=false):=by
     show _=_
     simp [hq]
    go_wp2_with fail;refine bodyPost_ret (v:=.tuple #[.int .i64 a,.bool false]) (by simp [results,Tryz.results133,go_sem]) rfl ⟨a,hbn,HA.out,HZ.out,by rw [RE.out],HB.out⟩
def lexlt (a1 a2 a3 b1 b2 b3:Int):Prop:=a1 < b1∨(a1=b1∧(a2 < b2∨(a2=b2∧a3 < b3)))
theorem gK (st k n:Int) (p:Pn):0 < pcmp st k n p↔lexlt p.st p.k p.n st k n:=by
 unfold pcmp orI vcmp ms lexlt
 repeat' split
 all_goals omega
theorem fq (st k n:Int) (p:Pn):pcmp st k n p=0↔(p.st=st∧p.k=k∧p.n=n):=by
 unfold pcmp orI vcmp ms
 repeat' split
 all_goals omega
def jD (ps:List Pn):Prop:=ps.Pairwise fun p q=>lexlt p.st p.k p.n q.st q.k q.n
def cAt (st k n:Int) (ps:List Pn) (q:Nat):Int:=(ps[q]?.map (pcmp st k n)).getD 0
theorem gy (st k n:Int) (ps:List Pn) (q:Nat) (h:q < ps.length):cAt st k n ps q=pcmp st k n ps[q]:=by
 unfold cAt;rw [List.getElem?_eq_getElem h]
 rfl
theorem cAt_mono {ps:List Pn} (hr:jD ps) (st k n:Int) (p q:Nat) (hpq:p≤q) (hq:q < ps.length) (h:cAt st k n ps p≤0):cAt st k n ps q≤0:=by
 by_cases e:p=q
 ·subst e;exact h
 ·rw [gy _ _ _ _ _ (by omega)] at h ⊢;have h1:=List.pairwise_iff_getElem.1 hr p q (by omega) hq (by omega);have h2:=gK st k n ps[p];have h3:=gK st k n (ps[q]'hq);refine Int.not_lt.1 fun h9=>absurd (h2.2 ?_) (by omega)
  have h4:=h3.1 h9;unfold lexlt at h1 h4 ⊢;omega
theorem n7 (ps:List Pn) (ao:Option Addr) (cap:Nat) (st k n:Int) (w:World) (hr:bT w (.slice ao ps.length cap) 5 ps.length (rowOf aG ps)) (hl:ps.length≤1000) (hR:jD ps) :
  Calls Tryz.prog 100 #[.agg #[.slice ao ps.length cap],.int .i64 st,.agg #[.int .i64 k,.int .i64 n]] w fun e w'=>∃ i:Nat,i≤ps.length∧(∀ q,q < i→0 < cAt st k n ps q)∧(∀ q,i≤q→q < ps.length→cAt st k n ps q≤0)∧e=.returned (.tuple #[.int .i64 i,.bool (decide (i < ps.length) && (cAt st k n ps i == 0))])∧Below w.heap.size w w':=by
 have hA1:=(Below.refl w.heap.size w).alloc (Nat.le_refl _) (.cells #[.slice ao ps.length cap] 66);have hA2:=hA1.alloc hA1.size (.cells #[.int .i64 st] 3);have hA:=hA2.alloc hA2.size (.cells #[.int .i64 k,.int .i64 n] 41);have B0:=ai (ai (aM w [.slice ao ps.length cap] 66 (by simp)) ((Below.refl _ _).alloc (Nat.le_refl _) (.cells #[.int .i64 st] 3)) (by simp)) ((Below.refl _ _).alloc (Nat.le_refl _) (.cells #[.int .i64 k,.int .i64 n] 41)) (by simp;omega);have B1:=ai (aM (w.alloc (.cells #[.slice ao ps.length cap] 66)) [.int .i64 st] 3 (by simp)) ((Below.refl _ _).alloc (Nat.le_refl _) (.cells #[.int .i64 k,.int .i64 n] 41)) (by simp);have B2:=aM ((w.alloc (.cells #[.slice ao ps.length cap] 66)).alloc (.cells #[.int .i64 st] 3)) [.int .i64 k,.int .i64 n] 41 (by simp);have RR:=aA hr hA;rw [show (w.alloc (.cells #[.slice ao ps.length cap] 66)).heap.size=w.heap.size+1 from by simp] at B1;rw [show ((w.alloc (.cells #[.slice ao ps.length cap] 66)).alloc (.cells #[.int .i64 st] 3)).heap.size=w.heap.size+1+1 from by simp] at B2;have FC:=aa (sfind_any ps.length (cAt st k n ps) (.pointer (some ⟨w.heap.size+1,0,none⟩)) (.pointer (some ⟨w.heap.size,0,none⟩)) (.pointer (some ⟨w.heap.size+1+1,0,none⟩)) _ hl (fun p q h1 h2 h3=>cAt_mono hR st k n p q h1 h2 h3)
  (fun q hq w' hb=>by
   rw [gy _ _ _ _ _ hq];have D0:=ai B0 hb B0.lt;have D1:=ai B1 hb B1.lt;have D2:=ai B2 hb B2.lt;exact find1_any q ps ao cap st k n _ _ _ w' (D0.c 0 (by simp)) (D1.c 0 (by simp)) (D2.c 0 (by simp)) (D2.c 1 (by simp)) D0.lt D1.lt D2.lt (aA RR hb) hq hl))
 have HA:=aa hA;have d3:(((w.alloc (.cells #[.slice ao ps.length cap] 66)).alloc (.cells #[.int .i64 st] 3)).alloc (.cells #[.int .i64 k,.int .i64 n] 41)).cell? ⟨w.heap.size,0,none⟩=some (.slice ao ps.length cap):=B0.c 0 (by simp);clear hA1 hA2 hA B0 B1 B2 RR hr hR
 go_enter Tryz.func100,Tryz.ntmps100
 go_wp2_with fail;refine FC.out.mono ?_;rintro e w1 ⟨i,h1,h2,h3,rfl,hb⟩;have HB:=nxt HA hb;have R:=aa (And.intro h2 h3);clear hb h2 h3 HA FC d3;go_wp2_with fail;exact bodyPost_ret (v:=.tuple #[.int .i64 i,.bool (decide (i < ps.length) && (cAt st k n ps i == 0))]) (by simp [results,Tryz.results100,go_sem]) rfl ⟨i,h1,R.out.1,R.out.2,rfl,HB.out⟩
end Go.Proofs.YtcgjflamgnjhcaaGreatDoor

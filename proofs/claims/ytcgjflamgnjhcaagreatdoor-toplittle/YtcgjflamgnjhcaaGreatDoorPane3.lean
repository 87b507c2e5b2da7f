/- The contracts of panes.empty and of a pane's with, over this seat's translation. Conditions: as named. -/
import Derived.Test.YtcgjflamgnjhcaaGreatDoorPane1J
set_option linter.unusedVariables false
set_option linter.unusedSimpArgs false
set_option maxRecDepth 100000
set_option maxHeartbeats 8000000
namespace Go.Proofs.YtcgjflamgnjhcaaGreatDoor
open Go.ChangeShapes Go.WideShapes Go.ChangeAt Go.RowKit
def acAdd (a : Ac) (v : V2) : Ac:=⟨a.k,(gstep a.k (a.n,a.s,a.b) v).1,(gstep a.k (a.n,a.s,a.b) v).2.1,(gstep a.k (a.n,a.s,a.b) v).2.2⟩
def addL (ac : List Ac) (vs : List V2) : List Ac:=List.zipWith acAdd ac vs
def newA (k : Int) : Ac:=⟨k,0,0,0⟩
theorem accs_ext {L M : List Ac} (h : L.length = M.length) (hk : ∀ j,j < L.length → L[j]? = M[j]?) : L = M:=List.ext_getElem? fun i => by
 by_cases hi : i < L.length
 ·exact hk i hi
 ·rw [List.getElem?_eq_none (by omega),List.getElem?_eq_none (by omega)]
theorem empty_any (st k n : Int) (ks : List Int) (kv : Value) (w : World) (hl : ks.length ≤ 100) (hr : RowG w kv 1 ks.length (ks.map (Value.int .i64))) :
  Calls Tryz.prog 101 #[.int .i64 st,.agg #[.int .i64 k,.int .i64 n],kv] w fun e w' => ∃ u,e = .returned (aggP ⟨st,k,n,false,ks.map newA,u⟩) ∧ w'.ownsRow w.heap.size 192 4 u ks.length (rowOf cellsA (ks.map newA)) ∧ Below w.heap.size w w':=by
 obtain ⟨i0,hi,hz0,hz1,hz2⟩:=info_parts infoA
 obtain ⟨ao,cap,rfl⟩:=rowG_shape hr
 go_enter Tryz.func101,Tryz.ntmps101
 go_wp2_with (at_make;go_must (refine wpList_make_full _ rfl _ _ 82 rfl w.heap.size 192 i0 (.agg #[.int .i64 0,.int .i64 0,.int .i64 0,.int .i64 0]) 4 Tryz.underlying82 hi hz0 hz1 .i64 .i64 _ _ ks.length rfl rfl rfl rfl (by rw [hz2];omega) (by show _ ≤ 2 ^ 63 - 1;omega) (by simp;omega) ?_))
 intro w1 ho hg
 have hb1 : Below ((w.alloc (.cells #[.int .i64 k,.int .i64 n] 41)).alloc (.cells #[.int .i64 0,.int .i64 0,.int .i64 0,.slice none 0 0,.bool false] 84)).heap.size ((w.alloc (.cells #[.int .i64 k,.int .i64 n] 41)).alloc (.cells #[.int .i64 0,.int .i64 0,.int .i64 0,.slice none 0 0,.bool false] 84)) w1:=(Below.refl _ _).grown hg (Nat.le_refl _) (fun k hk => by cases hk)
 have B0:=hidE (blk_below (blk_below (blk_alloc1k w [.int .i64 k,.int .i64 n] 41 (by simp)) ((Below.refl _ _).alloc (Nat.le_refl _) (.cells #[.int .i64 0,.int .i64 0,.int .i64 0,.slice none 0 0,.bool false] 84)) (by simp)) hb1 (by simp;omega))
 have B1:=hidE (blk_below (blk_alloc1k (w.alloc (.cells #[.int .i64 k,.int .i64 n] 41)) [.int .i64 0,.int .i64 0,.int .i64 0,.slice none 0 0,.bool false] 84 (by simp)) hb1 (by simp))
 rw [show (w.alloc (.cells #[.int .i64 k,.int .i64 n] 41)).heap.size = w.heap.size + 1 from by simp] at B1
 have HB : Hid (Below w.heap.size w w1):=(((Below.refl w.heap.size w).alloc (Nat.le_refl _) _).alloc (by simp) _).trans (hb1.mono (by simp;omega))
 have ho' : w1.ownsRow w.heap.size 192 4 (.slice (some ⟨w.heap.size + 1 + 1,0,none⟩) ks.length ks.length) ks.length (rowOf cellsA (List.replicate ks.length ⟨0,0,0,0⟩)):=by
  rw [← made_accs]
  exact ho
 have HO:=hidE ho'
 have HR:=hidE hr
 clear hb1 ho ho' hg hr
 go_wp2_with fail
 go_loopw [15] (fun i wr => ∃ (m : Nat) (L : List Ac),m ≤ ks.length ∧ L.length = ks.length ∧ i = .int .i64 m ∧ Hid (∀ j,j < m → L[j]? = (ks.map newA)[j]?) ∧ Hid (wr.ownsRow w.heap.size 192 4 (.slice (some ⟨w.heap.size + 1 + 1,0,none⟩) ks.length ks.length) ks.length (rowOf cellsA L)) ∧ Hid (BlkAt wr w.heap.size [.int .i64 k,.int .i64 n]) ∧ Hid (BlkAt wr (w.heap.size + 1) [.int .i64 0,.int .i64 0,.int .i64 0,.slice none 0 0,.bool false]) ∧ Hid (Below w.heap.size w wr)) (fun i _ => ks.length - (intOf i).toNat)
 case atStart => exact ⟨0,List.replicate ks.length ⟨0,0,0,0⟩,Nat.zero_le _,by simp,rfl,fun j hj => absurd hj (by omega),HO,B0,B1,HB⟩
 case round =>
  clear HO B0 B1 HB
  obtain ⟨m,L,hm,hL,rfl,HM,HO,B0,B1,HB⟩:=hrel
  by_cases hlt : m < ks.length
  ·obtain ⟨g,off,x,rfl,hx,x0,q1,q2,q3⟩:=rowG_cell (rowG_below HR.out HB.out) m hlt
   obtain ⟨km,rfl,HKM⟩ : ∃ km,x = .int .i64 km ∧ Hid ((ks.map newA)[m]? = some (newA km)):=by
    rw [List.getElem?_map,List.getElem?_eq_getElem hlt] at hx
    simp only [Option.map_some,Option.some.injEq] at hx
    refine ⟨ks[m],hx.symm,?_⟩
    show _ = _
    rw [List.getElem?_map,List.getElem?_eq_getElem hlt]
    rfl
   clear hx
   unfold maxLen at q2
   have GN:=hidE (fun w => gnew_any km w)
   unfold aggA at GN
   simp only at GN
   go_wp2_with fail
   refine (GN.out _).mono ?_
   rintro e w2 ⟨rfl,hb⟩
   have HO2:=hidE (own_keep HO.out hb (Nat.le_refl _))
   have B02:=hidE (blk_below B0.out hb B0.out.lt)
   have B12:=hidE (blk_below B1.out hb B1.out.lt)
   have HB2:=nxt HB hb
   clear hb HO B0 B1 HB x0
   have s0:=HO2.out.cellAt (m * 4) (by omega)
   have s1:=HO2.out.cellAt (m * 4 + 1) (by omega)
   have s2:=HO2.out.cellAt (m * 4 + 2) (by omega)
   have s3:=HO2.out.cellAt (m * 4 + 3) (by omega)
   have hrl : (rowOf cellsA L).length = ks.length * 4:=by rw [rowOf_len cellsA_len,hL]
   rw [List.getElem?_eq_getElem (by omega)] at s0 s1 s2 s3
   generalize (rowOf cellsA L)[m * 4] = r0 at s0
   generalize (rowOf cellsA L)[m * 4 + 1] = r1 at s1
   generalize (rowOf cellsA L)[m * 4 + 2] = r2 at s2
   generalize (rowOf cellsA L)[m * 4 + 3] = r3 at s3
   have z0:=owns_thawG2 HO2.out (m * 4)
   have z1:=owns_thawG2 HO2.out (m * 4 + 1)
   have z2:=owns_thawG2 HO2.out (m * 4 + 2)
   have z3:=owns_thawG2 HO2.out (m * 4 + 3)
   have HO3:=hidE (owns_setG (owns_setG (owns_setG (owns_setG HO2.out (m * 4) (.int .i64 km)) (m * 4 + 1) (.int .i64 0)) (m * 4 + 2) (.int .i64 0)) (m * 4 + 3) (.int .i64 0))
   rw [rowA_set L m ⟨km,0,0,0⟩ (by omega)] at HO3
   have B03:=hidE (blk_far (blk_far (blk_far (blk_far B02.out (g':=w.heap.size + 1 + 1) (by omega) (m * 4) (.int .i64 km)) (g':=w.heap.size + 1 + 1) (by omega) (m * 4 + 1) (.int .i64 0)) (g':=w.heap.size + 1 + 1) (by omega) (m * 4 + 2) (.int .i64 0)) (g':=w.heap.size + 1 + 1) (by omega) (m * 4 + 3) (.int .i64 0))
   have B13:=hidE (blk_far (blk_far (blk_far (blk_far B12.out (g':=w.heap.size + 1 + 1) (by omega) (m * 4) (.int .i64 km)) (g':=w.heap.size + 1 + 1) (by omega) (m * 4 + 1) (.int .i64 0)) (g':=w.heap.size + 1 + 1) (by omega) (m * 4 + 2) (.int .i64 0)) (g':=w.heap.size + 1 + 1) (by omega) (m * 4 + 3) (.int .i64 0))
   have HB3:=hidE ((((HB2.out.setCell (p:=⟨w.heap.size + 1 + 1,m * 4,none⟩) (by simp;omega) (.int .i64 km)).setCell (p:=⟨w.heap.size + 1 + 1,m * 4 + 1,none⟩) (by simp;omega) (.int .i64 0)).setCell (p:=⟨w.heap.size + 1 + 1,m * 4 + 2,none⟩) (by simp;omega) (.int .i64 0)).setCell (p:=⟨w.heap.size + 1 + 1,m * 4 + 3,none⟩) (by simp;omega) (.int .i64 0))
   have HLL:=hidE hL
   clear HO2 B02 B12 HB2 hL hrl
   go_wp2_with fail
   go_roundw
   case rel => exact ⟨m + 1,L.set m (newA km),by omega,by simpa using HLL.out,by go_num,fun j hj => by
     by_cases h9 : j = m
     ·subst h9
      rw [HKM.out,List.getElem?_set]
      simp [HLL.out,hlt]
     ·rw [List.getElem?_set,if_neg (fun e => h9 e.symm)]
      exact HM.out j (by omega),HO3,B03,B13,HB3⟩
   case measure => simp [intOf];omega
  ·have hme : m = ks.length:=by omega
   subst hme
   have HLe : Hid (L = ks.map newA):=accs_ext (by simp [hL]) (fun j hj => HM.out j (by omega))
   have d0 : wr.cell? ⟨w.heap.size,0,none⟩ = some (.int .i64 k):=B0.out.c 0 (by simp)
   have d1 : wr.cell? ⟨w.heap.size,1,none⟩ = some (.int .i64 n):=B0.out.c 1 (by simp)
   have g0 : wr.cell? ⟨w.heap.size + 1,0,none⟩ = some (.int .i64 0):=B1.out.c 0 (by simp)
   have g1 : wr.cell? ⟨w.heap.size + 1,1,none⟩ = some (.int .i64 0):=B1.out.c 1 (by simp)
   have g2 : wr.cell? ⟨w.heap.size + 1,2,none⟩ = some (.int .i64 0):=B1.out.c 2 (by simp)
   have g3 : wr.cell? ⟨w.heap.size + 1,3,none⟩ = some (.slice none 0 0):=B1.out.c 3 (by simp)
   have g4 : wr.cell? ⟨w.heap.size + 1,4,none⟩ = some (.bool false):=B1.out.c 4 (by simp)
   have z:=B1.out.fz
   have z0:=z 0
   have z1:=z 1
   have z2:=z 2
   have z3:=z 3
   have z4:=z 4
   have NE : Hid ((Value.slice (some ⟨w.heap.size + 1 + 1,0,none⟩) ks.length ks.length).ownBlock ≠ some (w.heap.size + 1)):=by
    show _ ≠ _
    simp [Value.ownBlock]
   rw [HLe.out] at HO
   clear z hL HLe
   go_wp2_with fail
   refine bodyPost_ret (v:=.agg #[.int .i64 st,.int .i64 k,.int .i64 n,.slice (some ⟨w.heap.size + 1 + 1,0,none⟩) ks.length ks.length,.bool false]) (by simp [results,Tryz.results101,go_sem,g0,g1,g2,g3,g4]) rfl ⟨_,rfl,?_,?_⟩
   ·iterate 5 (refine ownsRow_setCell_other ?_ NE.out _)
    exact HO.out
   ·iterate 5 (refine Below.setCell ?_ (by first | (simp;done) | (simp;omega)) _)
    exact HB.out
theorem with_any (p : Pn) (vs : List V2) (vv : Value) (w : World) (hl : p.ac.length ≤ 100) (hr : AccR w p) (hk : ∀ a ∈ p.ac,1 ≤ a.k ∧ a.k ≤ 5 ∧ 0 ≤ a.n ∧ a.n ≤ 1000) (hv : RowG w vv 2 vs.length (rowV vs)) (hvl : vs.length = p.ac.length) :
  Calls Tryz.prog 102 #[aggP p,vv] w fun e w' => ∃ u,e = .returned (aggP ⟨p.st,p.k,p.n,p.told,addL p.ac vs,u⟩) ∧ w'.ownsRow w.heap.size 192 4 u p.ac.length (rowOf cellsA (addL p.ac vs)) ∧ Below w.heap.size w w':=by
 obtain ⟨aov,capv,rfl⟩:=rowG_shape hv
 obtain ⟨st,k,n,told,ac,av⟩:=p
 obtain ⟨ao,cap0,hav⟩:=rowS_shape hr
 simp only at hav hl hk hvl
 subst hav
 have HV:=hidE hv
 have HVL:=hidE hvl
 rw [hvl]
 clear hv hvl
 have hA : Below w.heap.size w ((w.alloc (.cells #[.int .i64 st,.int .i64 k,.int .i64 n,.slice ao ac.length cap0,.bool told] 84)).alloc (.cells #[.int .i64 0,.int .i64 0,.int .i64 0,.slice none 0 0,.bool false] 84)):=((Below.refl _ _).alloc (Nat.le_refl _) _).alloc (by simp) _
 have OW:=hidE (own_any ⟨st,k,n,told,ac,.slice ao ac.length cap0⟩ _ (by simp only;omega) (accR_below hr hA))
 have HB:=hidE hA
 have HK:=hidE hk
 have B0:=blk_below (blk_alloc1k w [.int .i64 st,.int .i64 k,.int .i64 n,.slice ao ac.length cap0,.bool told] 84 (by simp)) ((Below.refl _ _).alloc (Nat.le_refl _) (.cells #[.int .i64 0,.int .i64 0,.int .i64 0,.slice none 0 0,.bool false] 84)) (by simp)
 have B1:=blk_alloc1k (w.alloc (.cells #[.int .i64 st,.int .i64 k,.int .i64 n,.slice ao ac.length cap0,.bool told] 84)) [.int .i64 0,.int .i64 0,.int .i64 0,.slice none 0 0,.bool false] 84 (by simp)
 rw [show (w.alloc (.cells #[.int .i64 st,.int .i64 k,.int .i64 n,.slice ao ac.length cap0,.bool told] 84)).heap.size = w.heap.size + 1 from by simp] at B1
 have HB0:=hidE B0
 have HB1:=hidE B1
 unfold aggP at OW ⊢
 simp only at OW ⊢
 clear hA hr hk B0 B1
 go_enter Tryz.func102,Tryz.ntmps102
 go_wp2_with fail
 refine OW.out.mono ?_
 rintro e w1 ⟨u,rfl,ho,hb⟩
 obtain ⟨aou,capu,rfl⟩:=owns_shapeE ho
 have ne0 : (Value.slice aou ac.length capu).ownBlock ≠ some w.heap.size:=fun e => by have:=(own_at ho _ e).1;simp at this;omega
 have ne1 : (Value.slice aou ac.length capu).ownBlock ≠ some (w.heap.size + 1):=fun e => by have:=(own_at ho _ e).1;simp at this;omega
 have HO:=hidE (owns_baseG (base':=w.heap.size) ho (by simp;omega))
 have C0:=blk_below HB0.out hb HB0.out.lt
 have C1:=hidE (blk_below HB1.out hb HB1.out.lt)
 have HB:=nxt HB hb
 have d0 : w1.cell? ⟨w.heap.size,0,none⟩ = some (.int .i64 st):=C0.c 0 (by simp)
 have d1 : w1.cell? ⟨w.heap.size,1,none⟩ = some (.int .i64 k):=C0.c 1 (by simp)
 have d2 : w1.cell? ⟨w.heap.size,2,none⟩ = some (.int .i64 n):=C0.c 2 (by simp)
 have d3 : w1.cell? ⟨w.heap.size,3,none⟩ = some (.slice ao ac.length cap0):=C0.c 3 (by simp)
 have d4 : w1.cell? ⟨w.heap.size,4,none⟩ = some (.bool told):=C0.c 4 (by simp)
 have z0:=C0.fz 0
 have z1:=C0.fz 1
 have z2:=C0.fz 2
 have z3:=C0.fz 3
 have z4:=C0.fz 4
 have NE:=hidE (And.intro ne0 ne1)
 have HC0:=hidE C0
 have dmin : decide ((ac.length : Int) < (ac.length : Int)) = false:=by simp
 have D0 : Hid (BlkAt (((((w1.setCell ⟨w.heap.size,0,none⟩ (.int .i64 st)).setCell ⟨w.heap.size,1,none⟩ (.int .i64 k)).setCell ⟨w.heap.size,2,none⟩ (.int .i64 n)).setCell ⟨w.heap.size,3,none⟩ (.slice aou ac.length capu)).setCell ⟨w.heap.size,4,none⟩ (.bool told)) w.heap.size [.int .i64 st,.int .i64 k,.int .i64 n,.slice aou ac.length capu,.bool told]):=(blk_set (blk_set (blk_set (blk_set (blk_set C0 0 (.int .i64 st) (by simp)) 1 (.int .i64 k) (by simp)) 2 (.int .i64 n) (by simp)) 3 (.slice aou ac.length capu) (by simp)) 4 (.bool told) (by simp))
 have D1 : Hid (BlkAt (((((w1.setCell ⟨w.heap.size,0,none⟩ (.int .i64 st)).setCell ⟨w.heap.size,1,none⟩ (.int .i64 k)).setCell ⟨w.heap.size,2,none⟩ (.int .i64 n)).setCell ⟨w.heap.size,3,none⟩ (.slice aou ac.length capu)).setCell ⟨w.heap.size,4,none⟩ (.bool told)) (w.heap.size + 1) [.int .i64 0,.int .i64 0,.int .i64 0,.slice none 0 0,.bool false]):=(blk_far (blk_far (blk_far (blk_far (blk_far C1.out (g':=w.heap.size) (by omega) 0 (.int .i64 st)) (g':=w.heap.size) (by omega) 1 (.int .i64 k)) (g':=w.heap.size) (by omega) 2 (.int .i64 n)) (g':=w.heap.size) (by omega) 3 (.slice aou ac.length capu)) (g':=w.heap.size) (by omega) 4 (.bool told))
 have DB : Hid (Below w.heap.size w (((((w1.setCell ⟨w.heap.size,0,none⟩ (.int .i64 st)).setCell ⟨w.heap.size,1,none⟩ (.int .i64 k)).setCell ⟨w.heap.size,2,none⟩ (.int .i64 n)).setCell ⟨w.heap.size,3,none⟩ (.slice aou ac.length capu)).setCell ⟨w.heap.size,4,none⟩ (.bool told))):=(((((HB.out.setCell (p:=⟨w.heap.size,0,none⟩) (Nat.le_refl _) (.int .i64 st)).setCell (p:=⟨w.heap.size,1,none⟩) (Nat.le_refl _) (.int .i64 k)).setCell (p:=⟨w.heap.size,2,none⟩) (Nat.le_refl _) (.int .i64 n)).setCell (p:=⟨w.heap.size,3,none⟩) (Nat.le_refl _) (.slice aou ac.length capu)).setCell (p:=⟨w.heap.size,4,none⟩) (Nat.le_refl _) (.bool told))
 have DO:=hidE (ownsRow_setCell_other (a:=⟨w.heap.size,4,none⟩) (ownsRow_setCell_other (a:=⟨w.heap.size,3,none⟩) (ownsRow_setCell_other (a:=⟨w.heap.size,2,none⟩) (ownsRow_setCell_other (a:=⟨w.heap.size,1,none⟩) (ownsRow_setCell_other (a:=⟨w.heap.size,0,none⟩) HO.out NE.out.1 (.int .i64 st)) NE.out.1 (.int .i64 k)) NE.out.1 (.int .i64 n)) NE.out.1 (.slice aou ac.length capu)) NE.out.1 (.bool told))
 clear ho hb ne0 ne1 C0 C1 HC0 HB0 HB1 OW HB HO
 go_wp2_with fail
 clear d0 d1 d2 d3 d4 z0 z1 z2 z3 z4 dmin
 go_loopw [14] (fun i wr => ∃ (m : Nat) (L : List Ac),m ≤ ac.length ∧ L.length = ac.length ∧ i = .int .i64 m ∧ Hid (∀ j,j < m → L[j]? = (addL ac vs)[j]?) ∧ Hid (∀ j,m ≤ j → L[j]? = ac[j]?) ∧ Hid (wr.ownsRow w.heap.size 192 4 (.slice aou ac.length capu) ac.length (rowOf cellsA L)) ∧ Hid (BlkAt wr w.heap.size [.int .i64 st,.int .i64 k,.int .i64 n,.slice aou ac.length capu,.bool told]) ∧ Hid (BlkAt wr (w.heap.size + 1) [.int .i64 0,.int .i64 0,.int .i64 0,.slice none 0 0,.bool false]) ∧ Hid (Below w.heap.size w wr)) (fun i _ => ac.length - (intOf i).toNat)
 case atStart => exact ⟨0,ac,Nat.zero_le _,rfl,rfl,fun j hj => absurd hj (by omega),fun j _ => rfl,DO,D0,D1,DB⟩
 case round =>
  clear DO D0 D1 DB
  obtain ⟨m,L,hm,hL,rfl,HM,HN,HO,B0,B1,HB⟩:=hrel
  by_cases hlt : m < ac.length
  ·obtain ⟨g,cap,hv,gb,lg,gc,gm⟩:=owns_headG HO.out (by omega)
   injection hv with e1 e2 e3
   subst e1 e3
   have hvl:=HVL.out
   obtain ⟨gv,ov,rfl,hcv,u1,u2,u3⟩:=rowOf_val (f:=cellsV) cellsV_len HV.out m (by omega)
   have HAD : Hid ((addL ac vs)[m]? = some (acAdd ac[m] (vs[m]'(by omega)))):=by
    show _ = _
    simp [addL,List.getElem?_zipWith,hlt,hvl]
   have hLm : L[m]? = some ac[m]:=by rw [HN.out m (Nat.le_refl _),List.getElem?_eq_getElem hlt]
   have hkm:=HK.out ac[m] (List.getElem_mem hlt)
   generalize ac[m] = a at *
   generalize (vs[m]'(by omega)) = v at *
   obtain ⟨a1,a2,a3,a4⟩:=a
   obtain ⟨v1,v2⟩:=v
   have x0 : wr.cell? ⟨g,m * 4,none⟩ = some (.int .i64 a1):=by rw [HO.out.cellAt (m * 4) (by omega)];exact rowOf_at cellsA_len L m 0 _ hLm (by omega)
   have x1 : wr.cell? ⟨g,m * 4 + 1,none⟩ = some (.int .i64 a2):=by rw [HO.out.cellAt (m * 4 + 1) (by omega)];exact rowOf_at cellsA_len L m 1 _ hLm (by omega)
   have x2 : wr.cell? ⟨g,m * 4 + 2,none⟩ = some (.int .i64 a3):=by rw [HO.out.cellAt (m * 4 + 2) (by omega)];exact rowOf_at cellsA_len L m 2 _ hLm (by omega)
   have x3 : wr.cell? ⟨g,m * 4 + 3,none⟩ = some (.int .i64 a4):=by rw [HO.out.cellAt (m * 4 + 3) (by omega)];exact rowOf_at cellsA_len L m 3 _ hLm (by omega)
   have hwv:=HB.out.cell (p:=⟨gv,ov + m * 2,none⟩) u3
   have hwv1:=HB.out.cell (p:=⟨gv,ov + m * 2 + 1,none⟩) u3
   have y0 : wr.cell? ⟨gv,ov + m * 2,none⟩ = some (.int .i64 v1):=hwv.trans (hcv 0 (by omega))
   have y1 : wr.cell? ⟨gv,ov + m * 2 + 1,none⟩ = some (.int .i64 v2):=hwv1.trans (hcv 1 (by omega))
   have lv : gv < wr.heap.size:=Nat.lt_of_lt_of_le u3 HB.out.size
   have lb0:=B0.out.lt
   have c3 : wr.cell? ⟨w.heap.size,3,none⟩ = some (.slice (some ⟨g,0,none⟩) ac.length capu):=B0.out.c 3 (by simp)
   have gn0 : g ≠ w.heap.size:=fun e => NE.out.1 (by subst e;rfl)
   have gn1 : g ≠ w.heap.size + 1:=fun e => NE.out.2 (by subst e;rfl)
   have GA:=hidE (fun w => gadd_any a1 a2 a3 a4 v1 v2 w hkm.1 hkm.2.1 hkm.2.2.1 hkm.2.2.2)
   unfold aggA at GA
   have eA : acAdd ⟨a1,a2,a3,a4⟩ (v1,v2) = ⟨a1,(gstep a1 (a2,a3,a4) (v1,v2)).1,(gstep a1 (a2,a3,a4) (v1,v2)).2.1,(gstep a1 (a2,a3,a4) (v1,v2)).2.2⟩:=rfl
   rw [eA] at HAD
   generalize gstep a1 (a2,a3,a4) (v1,v2) = G at *
   obtain ⟨G1,G2,G3⟩:=G
   simp only at GA HAD
   rw [hvl] at u1
   unfold maxLen at gm u2
   have hS : Below wr.heap.size wr { wr with drawn:=wr.drawn + 1 }:=(Below.refl _ _).drew
   clear eA hwv hwv1 hcv hLm hvl hkm
   go_wp2_with fail
   refine wp_region_last (Below wr.heap.size wr) 14 (by kernel_rfl) ?_
   generalize hwd : ({ wr with drawn:=wr.drawn + 1 } : World) = wd at *
   clear hwd
   refine last_take (i:=0) (v:=.pointer (some ⟨w.heap.size,3,none⟩)) (L:=#[true,false,false,false,false,false,false,false,false,false,false,false,false,false,false]) [1,13,14] rfl (by kernel_rfl) (by kernel_rfl) (by kernel_rfl) (by kernel_rfl) (by kernel_rfl) (fun c a w h => h) (Or.inl ⟨by kernel_rfl,fun wq hq => by go_simp⟩) hS (by kernel_rfl) ?_
   refine last_take (i:=1) (v:=.slice (some ⟨g,0,none⟩) ac.length capu) (L:=#[true,true,false,false,false,false,false,false,false,false,false,false,false,false,false]) [13,14] rfl (by kernel_rfl) (by kernel_rfl) (by kernel_rfl) (by kernel_rfl) (by kernel_rfl) (fun c a w h => h) (Or.inl ⟨by kernel_rfl,fun wq hq => by have q:=hq.cell (p:=⟨w.heap.size,3,none⟩) lb0;rw [c3] at q;go_simp⟩) hS (by kernel_rfl) ?_
   refine last_take (i:=2) (v:=.int .i64 (m : Int)) (L:=#[true,true,true,false,false,false,false,false,false,false,false,false,false,false,false]) [13,14] rfl (by kernel_rfl) (by kernel_rfl) (by kernel_rfl) (by kernel_rfl) (by kernel_rfl) (fun c a w h => h) (Or.inl ⟨by kernel_rfl,fun wq hq => by go_simp⟩) hS (by kernel_rfl) ?_
   refine last_take (i:=3) (v:=.pointer (some ⟨w.heap.size,3,none⟩)) (L:=#[true,true,true,true,false,false,false,false,false,false,false,false,false,false,false]) [4,6,7,12,14] rfl (by kernel_rfl) (by kernel_rfl) (by kernel_rfl) (by kernel_rfl) (by kernel_rfl) (fun c a w h => h) (Or.inl ⟨by kernel_rfl,fun wq hq => by go_simp⟩) hS (by kernel_rfl) ?_
   refine last_take (i:=4) (v:=.slice (some ⟨g,0,none⟩) ac.length capu) (L:=#[true,true,true,true,true,false,false,false,false,false,false,false,false,false,false]) [6,7,12,14] rfl (by kernel_rfl) (by kernel_rfl) (by kernel_rfl) (by kernel_rfl) (by kernel_rfl) (fun c a w h => h) (Or.inl ⟨by kernel_rfl,fun wq hq => by have q:=hq.cell (p:=⟨w.heap.size,3,none⟩) lb0;rw [c3] at q;go_simp⟩) hS (by kernel_rfl) ?_
   refine last_take (i:=5) (v:=.int .i64 (m : Int)) (L:=#[true,true,true,true,true,true,false,false,false,false,false,false,false,false,false]) [6,7,12,14] rfl (by kernel_rfl) (by kernel_rfl) (by kernel_rfl) (by kernel_rfl) (by kernel_rfl) (fun c a w h => h) (Or.inl ⟨by kernel_rfl,fun wq hq => by go_simp⟩) hS (by kernel_rfl) ?_
   refine last_take (i:=6) (v:=.pointer (some ⟨g,m * 4,none⟩)) (L:=#[true,true,true,true,true,true,true,false,false,false,false,false,false,false,false]) [7,12,14] rfl (by kernel_rfl) (by kernel_rfl) (by kernel_rfl) (by kernel_rfl) (by kernel_rfl) (fun c a w h => h) (Or.inl ⟨by kernel_rfl,fun wq hq => by go_simp⟩) hS (by kernel_rfl) ?_
   refine last_take (i:=7) (v:=.agg #[.int .i64 a1,.int .i64 a2,.int .i64 a3,.int .i64 a4]) (L:=#[true,true,true,true,true,true,true,true,false,false,false,false,false,false,false]) [12,14] rfl (by kernel_rfl) (by kernel_rfl) (by kernel_rfl) (by kernel_rfl) (by kernel_rfl) (fun c a w h => h) (Or.inl ⟨by kernel_rfl,fun wq hq => by have q0:=hq.cell (p:=⟨g,m * 4,none⟩) lg;rw [x0] at q0;have q1:=hq.cell (p:=⟨g,m * 4 + 1,none⟩) lg;rw [x1] at q1;have q2:=hq.cell (p:=⟨g,m * 4 + 2,none⟩) lg;rw [x2] at q2;have q3:=hq.cell (p:=⟨g,m * 4 + 3,none⟩) lg;rw [x3] at q3;go_simp⟩) hS (by kernel_rfl) ?_
   refine last_take (i:=8) (v:=.slice (some ⟨gv,ov,none⟩) ac.length capv) (L:=#[true,true,true,true,true,true,true,true,true,false,false,false,false,false,false]) [10,11,12,14] rfl (by kernel_rfl) (by kernel_rfl) (by kernel_rfl) (by kernel_rfl) (by kernel_rfl) (fun c a w h => h) (Or.inl ⟨by kernel_rfl,fun wq hq => by go_simp⟩) hS (by kernel_rfl) ?_
   refine last_take (i:=9) (v:=.int .i64 (m : Int)) (L:=#[true,true,true,true,true,true,true,true,true,true,false,false,false,false,false]) [10,11,12,14] rfl (by kernel_rfl) (by kernel_rfl) (by kernel_rfl) (by kernel_rfl) (by kernel_rfl) (fun c a w h => h) (Or.inl ⟨by kernel_rfl,fun wq hq => by go_simp⟩) hS (by kernel_rfl) ?_
   refine last_take (i:=10) (v:=.pointer (some ⟨gv,ov + m * 2,none⟩)) (L:=#[true,true,true,true,true,true,true,true,true,true,true,false,false,false,false]) [11,12,14] rfl (by kernel_rfl) (by kernel_rfl) (by kernel_rfl) (by kernel_rfl) (by kernel_rfl) (fun c a w h => h) (Or.inl ⟨by kernel_rfl,fun wq hq => by go_simp⟩) hS (by kernel_rfl) ?_
   refine last_take (i:=11) (v:=.agg #[.int .i64 v1,.int .i64 v2]) (L:=#[true,true,true,true,true,true,true,true,true,true,true,true,false,false,false]) [12,14] rfl (by kernel_rfl) (by kernel_rfl) (by kernel_rfl) (by kernel_rfl) (by kernel_rfl) (fun c a w h => h) (Or.inl ⟨by kernel_rfl,fun wq hq => by have q0:=hq.cell (p:=⟨gv,ov + m * 2,none⟩) lv;rw [y0] at q0;have q1:=hq.cell (p:=⟨gv,ov + m * 2 + 1,none⟩) lv;rw [y1] at q1;go_simp⟩) hS (by kernel_rfl) ?_
   refine last_go (i:=12) (L:=#[true,true,true,true,true,true,true,true,true,true,true,true,true,false,false]) (by kernel_rfl) rfl (by kernel_rfl) (by kernel_rfl) ?_
   intro K' hK
   go_simp
   refine (GA.out _).mono ?_
   rintro e w2 ⟨rfl,hb⟩
   have hb2 : Below wr.heap.size wr w2:=hS.trans (hb.mono hS.size)
   refine hK _ _ ⟨fun _ => hb2,?_⟩
   clear hK hb
   refine last_go (i:=13) (L:=#[true,true,true,true,true,true,true,true,true,true,true,true,true,true,false]) (by kernel_rfl) rfl (by kernel_rfl) (by kernel_rfl) ?_
   intro K' hK
   go_simp
   refine hK _ _ ⟨fun _ => hb2,?_⟩
   clear hK
   refine last_go (i:=14) (L:=#[true,true,true,true,true,true,true,true,true,true,true,true,true,true,true]) (by kernel_rfl) rfl (by kernel_rfl) (by kernel_rfl) ?_
   intro K' hK
   have HO2:=hidE (own_keep HO.out hb2 (Nat.le_refl _))
   have s0:=HO2.out.cellAt (m * 4) (by omega)
   have s1:=HO2.out.cellAt (m * 4 + 1) (by omega)
   have s2:=HO2.out.cellAt (m * 4 + 2) (by omega)
   have s3:=HO2.out.cellAt (m * 4 + 3) (by omega)
   have hrl : (rowOf cellsA L).length = ac.length * 4:=by rw [rowOf_len cellsA_len,hL]
   rw [List.getElem?_eq_getElem (by omega)] at s0 s1 s2 s3
   generalize (rowOf cellsA L)[m * 4] = r0 at s0
   generalize (rowOf cellsA L)[m * 4 + 1] = r1 at s1
   generalize (rowOf cellsA L)[m * 4 + 2] = r2 at s2
   generalize (rowOf cellsA L)[m * 4 + 3] = r3 at s3
   have z0:=owns_thawG2 HO2.out (m * 4)
   have z1:=owns_thawG2 HO2.out (m * 4 + 1)
   have z2:=owns_thawG2 HO2.out (m * 4 + 2)
   have z3:=owns_thawG2 HO2.out (m * 4 + 3)
   clear hrl
   go_simp
   refine hK _ _ ⟨fun h => absurd rfl h,?_⟩
   clear hK s0 s1 s2 s3 z0 z1 z2 z3
   refine last_done (by kernel_rfl) ?_ _
   have HO3:=hidE (owns_setG (owns_setG (owns_setG (owns_setG HO2.out (m * 4) (.int .i64 a1)) (m * 4 + 1) (.int .i64 G1)) (m * 4 + 2) (.int .i64 G2)) (m * 4 + 3) (.int .i64 G3))
   rw [rowA_set L m ⟨a1,G1,G2,G3⟩ (by omega)] at HO3
   have B03:=hidE (blk_far (blk_far (blk_far (blk_far (blk_below B0.out hb2 B0.out.lt) (g':=g) gn0 (m * 4) (.int .i64 a1)) (g':=g) gn0 (m * 4 + 1) (.int .i64 G1)) (g':=g) gn0 (m * 4 + 2) (.int .i64 G2)) (g':=g) gn0 (m * 4 + 3) (.int .i64 G3))
   have B13:=hidE (blk_far (blk_far (blk_far (blk_far (blk_below B1.out hb2 B1.out.lt) (g':=g) gn1 (m * 4) (.int .i64 a1)) (g':=g) gn1 (m * 4 + 1) (.int .i64 G1)) (g':=g) gn1 (m * 4 + 2) (.int .i64 G2)) (g':=g) gn1 (m * 4 + 3) (.int .i64 G3))
   have HB3:=hidE (((((nxt HB hb2).out.setCell (p:=⟨g,m * 4,none⟩) gb (.int .i64 a1)).setCell (p:=⟨g,m * 4 + 1,none⟩) gb (.int .i64 G1)).setCell (p:=⟨g,m * 4 + 2,none⟩) gb (.int .i64 G2)).setCell (p:=⟨g,m * 4 + 3,none⟩) gb (.int .i64 G3))
   have HLL:=hidE hL
   clear HO2 B0 B1 HB HO hL hb2
   go_wp2_with fail
   go_roundw
   case rel => exact ⟨m + 1,L.set m ⟨a1,G1,G2,G3⟩,by omega,by simpa using HLL.out,by go_num,fun j hj => by
     by_cases h9 : j = m
     ·subst h9
      rw [HAD.out,List.getElem?_set]
      simp [HLL.out,hlt]
     ·rw [List.getElem?_set,if_neg (fun e => h9 e.symm)]
      exact HM.out j (by omega),fun j hj => by
     rw [List.getElem?_set,if_neg (by omega)]
     exact HN.out j (by omega),HO3,B03,B13,HB3⟩
   case measure => simp [intOf];omega
  ·have hme : m = ac.length:=by omega
   subst hme
   have HLe : Hid (L = addL ac vs):=accs_ext (by simp [addL,hL,HVL.out]) (fun j hj => HM.out j (by omega))
   have d0 : wr.cell? ⟨w.heap.size,0,none⟩ = some (.int .i64 st):=B0.out.c 0 (by simp)
   have d1 : wr.cell? ⟨w.heap.size,1,none⟩ = some (.int .i64 k):=B0.out.c 1 (by simp)
   have d2 : wr.cell? ⟨w.heap.size,2,none⟩ = some (.int .i64 n):=B0.out.c 2 (by simp)
   have d3 : wr.cell? ⟨w.heap.size,3,none⟩ = some (.slice aou ac.length capu):=B0.out.c 3 (by simp)
   have d4 : wr.cell? ⟨w.heap.size,4,none⟩ = some (.bool told):=B0.out.c 4 (by simp)
   have g0 : wr.cell? ⟨w.heap.size + 1,0,none⟩ = some (.int .i64 0):=B1.out.c 0 (by simp)
   have g1 : wr.cell? ⟨w.heap.size + 1,1,none⟩ = some (.int .i64 0):=B1.out.c 1 (by simp)
   have g2 : wr.cell? ⟨w.heap.size + 1,2,none⟩ = some (.int .i64 0):=B1.out.c 2 (by simp)
   have g3 : wr.cell? ⟨w.heap.size + 1,3,none⟩ = some (.slice none 0 0):=B1.out.c 3 (by simp)
   have g4 : wr.cell? ⟨w.heap.size + 1,4,none⟩ = some (.bool false):=B1.out.c 4 (by simp)
   have z:=B1.out.fz
   have z0:=z 0
   have z1:=z 1
   have z2:=z 2
   have z3:=z 3
   have z4:=z 4
   rw [HLe.out] at HO
   clear z hL HLe
   go_wp2_with fail
   refine bodyPost_ret (v:=.agg #[.int .i64 st,.int .i64 k,.int .i64 n,.slice aou ac.length capu,.bool told]) (by simp [results,Tryz.results102,go_sem,g0,g1,g2,g3,g4]) rfl ⟨_,rfl,?_,?_⟩
   ·iterate 5 (refine ownsRow_setCell_other ?_ NE.out.2 _)
    exact HO.out
   ·iterate 5 (refine Below.setCell ?_ (by first | (simp;done) | (simp;omega)) _)
    exact HB.out
end Go.Proofs.YtcgjflamgnjhcaaGreatDoor

/- The contract of a table's Add where such a pane is there, over this seat's translation. Conditions: as named. -/
import Derived.Test.YtcgjflamgnjhcaaGreatDoorPane7
set_option linter.unusedVariables false
set_option linter.unusedSimpArgs false
set_option maxRecDepth 100000
set_option maxHeartbeats 8000000
namespace Go.Proofs.YtcgjflamgnjhcaaGreatDoor
open Go.ChangeShapes Go.WideShapes Go.ChangeAt Go.RowKit
theorem set_five {A B : List Value} {x0 x1 x2 x3 x4 u0 u1 u2 u3 u4 : Value} {k : Nat} (h : A.length = k) : (((((A ++ ([x0,x1,x2,x3,x4] ++ B)).set k u0).set (k + 1) u1).set (k + 2) u2).set (k + 3) u3).set (k + 4) u4 = A ++ ([u0,u1,u2,u3,u4] ++ B):=by
 subst h
 simp [List.set_append]
theorem rowP_set (l : List Pn) (i : Nat) (a : Pn) (hi : i < l.length) : (((((rowOf cellsPn l).set (i * 5) (.int .i64 a.st)).set (i * 5 + 1) (.int .i64 a.k)).set (i * 5 + 2) (.int .i64 a.n)).set (i * 5 + 3) a.av).set (i * 5 + 4) (.bool a.told) = rowOf cellsPn (l.set i a):=by
 rw [rowOf_split l i hi,rowOf_split_set l i a hi]
 exact set_five (take_len cellsPn_len l i hi)
theorem found_at {ps : List Pn} (hR : Rise ps) (st k n : Int) (i j : Nat) (hi : i ≤ ps.length) (hj : j < ps.length) (hk : ps[j].st = st ∧ ps[j].k = k ∧ ps[j].n = n) (h1 : ∀ q,q < i → 0 < cAt st k n ps q) (h2 : ∀ q,i ≤ q → q < ps.length → cAt st k n ps q ≤ 0) : i = j:=by
 have h0:=(pcmp_zero st k n ps[j]).2 hk
 by_cases ha : j < i
 ·have h3:=h1 j ha
  rw [cAt_is _ _ _ _ _ hj] at h3
  omega
 ·by_cases hb : i < j
  ·have h3:=h2 i (Nat.le_refl _) (by omega)
   rw [cAt_is _ _ _ _ _ (by omega)] at h3
   have h4:=List.pairwise_iff_getElem.1 hR i j (by omega) hj hb
   have h5:=(pcmp_pos st k n (ps[i]'(by omega))).2 (by rw [← hk.1,← hk.2.1,← hk.2.2];exact h4)
   omega
  ·omega
theorem add_old2 (ps : List Pn) (tv : Value) (st k n : Int) (kv : Value) (vs : List V2) (vv : Value) (w : World) (hT : TblR w tv ps) (hl : ps.length ≤ 500) (hR : Rise ps) (j : Nat) (hj : j < ps.length) (hk : ps[j].st = st ∧ ps[j].k = k ∧ ps[j].n = n)
  (hal : ps[j].ac.length ≤ 100) (hak : ∀ a ∈ ps[j].ac,1 ≤ a.k ∧ a.k ≤ 5 ∧ 0 ≤ a.n ∧ a.n ≤ 1000) (hv : RowG w vv 2 vs.length (rowV vs)) (hvl : vs.length = ps[j].ac.length) :
  Calls Tryz.prog 62 #[.agg #[tv],.int .i64 st,.agg #[.int .i64 k,.int .i64 n],kv,vv] w fun e w' => ∃ u av av2,e = .returned (.tuple #[.agg #[u],aggP ⟨st,k,n,ps[j].told,ps[j].ac,av2⟩,.bool true]) ∧
   TblR w' u (ps.set j ⟨st,k,n,ps[j].told,addL ps[j].ac vs,av⟩) ∧ AccR w' ⟨st,k,n,ps[j].told,ps[j].ac,av2⟩ ∧ (FromB w.heap.size u ∧ FromB w.heap.size av ∧ FromB w.heap.size av2) ∧ Below w.heap.size w w':=by
 obtain ⟨g,off,cap,rfl,hcell,hle,hm,lg⟩ : ∃ g off cap,tv = .slice (some ⟨g,off,none⟩) ps.length cap ∧ (∀ q,q < 5 → w.cell? ⟨g,off + (j * 5 + q),none⟩ = (cellsPn ps[j])[q]?) ∧ ps.length ≤ cap ∧ cap ≤ maxLen ∧ g < w.heap.size:=by
  obtain ⟨ao,cap,rfl⟩:=rowS_shape hT.row
  obtain ⟨g,off,rfl,h1,h2,h3,h4⟩:=rowOf_val cellsPn_len (rowG_of_S hT.row) j hj
  exact ⟨g,off,cap,rfl,h1,h2,h3,h4⟩
 obtain ⟨aov,capv,rfl⟩:=rowG_shape hv
 have hacc:=hT.acc ps[j] (List.getElem_mem hj)
 have FJ:=hidE (fun i hi h1 h2 => found_at hR st k n i j hi hj hk h1 h2)
 have CZ : Hid ((decide (j < ps.length) && (cAt st k n ps j == 0)) = true):=by
  show _ = _
  rw [cAt_is _ _ _ _ _ hj,(pcmp_zero st k n ps[j]).2 hk]
  simp [hj]
 generalize ps[j] = p at *
 obtain ⟨p1,p2,p3,pt,pac,pav⟩:=p
 obtain ⟨h1,h2,h3⟩:=hk
 simp only at h1 h2 h3 hal hak hvl
 subst p1 p2 p3
 obtain ⟨ap,cp,hpav⟩:=rowS_shape hacc
 simp only at hpav
 subst hpav
 unfold maxLen at hm
 have hk:=True.intro
 have b1:=(Below.refl w.heap.size w).alloc (Nat.le_refl _) (.cells #[.slice (some ⟨g,off,none⟩) ps.length cap] 66)
 have b2:=b1.alloc b1.size (.cells #[.int .i64 k,.int .i64 n] 41)
 have b3:=b2.alloc b2.size (.cells #[.slice none 0 0] 66)
 have b4:=b3.alloc b3.size (.cells #[.int .i64 0,.int .i64 0,.int .i64 0,.slice none 0 0,.bool false] 84)
 have A0:=blk_alloc1k w [.slice (some ⟨g,off,none⟩) ps.length cap] 66 (by simp)
 have A1:=blk_alloc1k (w.alloc (.cells #[.slice (some ⟨g,off,none⟩) ps.length cap] 66)) [.int .i64 k,.int .i64 n] 41 (by simp)
 have A2:=blk_alloc1k ((w.alloc (.cells #[.slice (some ⟨g,off,none⟩) ps.length cap] 66)).alloc (.cells #[.int .i64 k,.int .i64 n] 41)) [.slice none 0 0] 66 (by simp)
 have A3:=blk_alloc1k (((w.alloc (.cells #[.slice (some ⟨g,off,none⟩) ps.length cap] 66)).alloc (.cells #[.int .i64 k,.int .i64 n] 41)).alloc (.cells #[.slice none 0 0] 66)) [.int .i64 0,.int .i64 0,.int .i64 0,.slice none 0 0,.bool false] 84 (by simp)
 have s1 : (w.alloc (.cells #[.slice (some ⟨g,off,none⟩) ps.length cap] 66)).heap.size = w.heap.size + 1:=by simp
 have s2 : ((w.alloc (.cells #[.slice (some ⟨g,off,none⟩) ps.length cap] 66)).alloc (.cells #[.int .i64 k,.int .i64 n] 41)).heap.size = w.heap.size + 1 + 1:=by simp
 have s3 : (((w.alloc (.cells #[.slice (some ⟨g,off,none⟩) ps.length cap] 66)).alloc (.cells #[.int .i64 k,.int .i64 n] 41)).alloc (.cells #[.slice none 0 0] 66)).heap.size = w.heap.size + 1 + 1 + 1:=by simp
 have al:=fun (w : World) (o : Obj) => (Below.refl w.heap.size w).alloc (Nat.le_refl _) o
 have C0:=blk_below (blk_below (blk_below A0 (al _ (.cells #[.int .i64 k,.int .i64 n] 41)) A0.lt) (al _ (.cells #[.slice none 0 0] 66)) (by simp;omega)) (al _ (.cells #[.int .i64 0,.int .i64 0,.int .i64 0,.slice none 0 0,.bool false] 84)) (by simp;omega)
 have C1:=blk_below (blk_below A1 (al _ (.cells #[.slice none 0 0] 66)) A1.lt) (al _ (.cells #[.int .i64 0,.int .i64 0,.int .i64 0,.slice none 0 0,.bool false] 84)) (by simp)
 have C2:=blk_below A2 (al _ (.cells #[.int .i64 0,.int .i64 0,.int .i64 0,.slice none 0 0,.bool false] 84)) A2.lt
 rw [s1] at C1
 rw [s2] at C2
 rw [s3] at A3
 have FA:=hidE (find_any ps (some ⟨g,off,none⟩) cap st k n _ (rowG_below (rowG_of_S hT.row) b4) (by omega) hR)
 have d0:=C0.c 0 (by simp)
 have d1:=C1.c 0 (by simp)
 have d2:=C1.c 1 (by simp)
 have HB:=hidE b4
 have D0:=hidE C0
 have D1:=hidE C1
 have D2:=hidE C2
 have D3:=hidE A3
 have HT:=hidE hT
 have HR:=hidE hR
 have HV:=hidE hv
 have HVL:=hidE hvl
 have HAK:=hidE hak
 have HACC:=hidE hacc
 have HCELL:=hidE hcell
 clear b1 b2 b3 b4 A0 A1 A2 A3 C0 C1 C2 s1 s2 s3 al hT hR hv hvl hk hak hcell hacc
 simp only [List.getElem?_cons_zero,List.getElem?_cons_succ] at d0 d1 d2
 go_enter Tryz.func62,Tryz.ntmps62
 go_wp2_with fail
 refine FA.out.mono ?_
 rintro e w1 ⟨i,hi,h1,h2,rfl,hb⟩
 have hij:=FJ.out i hi h1 h2
 subst i
 rw [CZ.out]
 have E0:=hidE (blk_below D0.out hb D0.out.lt)
 have E2:=hidE (blk_below D2.out hb D2.out.lt)
 have E3:=hidE (blk_below D3.out hb D3.out.lt)
 have HB:=nxt HB hb
 have CL:=hidE (cloneP_any ps _ w1 (by omega) (tblR_below HT.out HB.out))
 clear hb h1 h2 D0 D1 D2 D3 d0 d1 d2 FA FJ CZ HR
 have d0 : w1.cell? ⟨w.heap.size,0,none⟩ = some (.slice (some ⟨g,off,none⟩) ps.length cap):=E0.out.c 0 (by simp)
 go_wp2_with fail
 refine CL.out.mono ?_
 rintro e w2 ⟨u,rfl,ho,hb⟩
 obtain ⟨gu,cu,rfl,gb,gs,gc,gm⟩:=owns_headG ho (by omega)
 have l3:=E3.out.lt
 have F0:=blk_below E0.out hb E0.out.lt
 have F2:=blk_below E2.out hb E2.out.lt
 have F3:=blk_below E3.out hb E3.out.lt
 have HB:=nxt HB hb
 have y2 : w2.cell? ⟨w.heap.size + 1 + 1,0,none⟩ = some (.slice none 0 0):=F2.c 0 (by simp)
 have z2:=F2.fz 0
 have K0:=blk_far F0 (g':=w.heap.size + 1 + 1) (by omega) 0 (.slice (some ⟨gu,0,none⟩) ps.length cu)
 have K2:=blk_set F2 0 (.slice (some ⟨gu,0,none⟩) ps.length cu) (by simp)
 have K3:=blk_far F3 (g':=w.heap.size + 1 + 1) (by omega) 0 (.slice (some ⟨gu,0,none⟩) ps.length cu)
 have KO:=ownsRow_setCell_other (a:=⟨w.heap.size + 1 + 1,0,none⟩) ho (by simp [Value.ownBlock];omega) (.slice (some ⟨gu,0,none⟩) ps.length cu)
 have KB:=hidE (HB.out.setCell (p:=⟨w.heap.size + 1 + 1,0,none⟩) (by simp;omega) (.slice (some ⟨gu,0,none⟩) ps.length cu))
 have dd : Below (w2.setCell ⟨w.heap.size + 1 + 1,0,none⟩ (.slice (some ⟨gu,0,none⟩) ps.length cu)).heap.size (w2.setCell ⟨w.heap.size + 1 + 1,0,none⟩ (.slice (some ⟨gu,0,none⟩) ps.length cu)) ({ (w2.setCell ⟨w.heap.size + 1 + 1,0,none⟩ (.slice (some ⟨gu,0,none⟩) ps.length cu)) with drawn:=(w2.setCell ⟨w.heap.size + 1 + 1,0,none⟩ (.slice (some ⟨gu,0,none⟩) ps.length cu)).drawn + 1 } : World):=(Below.refl _ _).drew
 have J0:=hidE (blk_below K0 dd K0.lt)
 have J2:=hidE (blk_below K2 dd K2.lt)
 have J3:=hidE (blk_below K3 dd K3.lt)
 have KO:=hidE (own_keep KO dd (Nat.le_refl _))
 have HB6:=nxt KB dd
 simp only [List.set_cons_zero] at J2
 unfold maxLen at gm
 clear ho hb E0 E2 E3 CL F0 F2 F3 HB K0 K2 K3 KB dd
 go_wp2_with fail
 refine wp_region_last (fun w' => Below ({ (w2.setCell ⟨w.heap.size + 1 + 1,0,none⟩ (.slice (some ⟨gu,0,none⟩) ps.length cu)) with drawn:=(w2.setCell ⟨w.heap.size + 1 + 1,0,none⟩ (.slice (some ⟨gu,0,none⟩) ps.length cu)).drawn + 1 } : World).heap.size ({ (w2.setCell ⟨w.heap.size + 1 + 1,0,none⟩ (.slice (some ⟨gu,0,none⟩) ps.length cu)) with drawn:=(w2.setCell ⟨w.heap.size + 1 + 1,0,none⟩ (.slice (some ⟨gu,0,none⟩) ps.length cu)).drawn + 1 } : World) w') 11 (by kernel_rfl) ?_
 generalize hwd : ({ (w2.setCell ⟨w.heap.size + 1 + 1,0,none⟩ (.slice (some ⟨gu,0,none⟩) ps.length cu)) with drawn:=(w2.setCell ⟨w.heap.size + 1 + 1,0,none⟩ (.slice (some ⟨gu,0,none⟩) ps.length cu)).drawn + 1 } : World) = wd at *
 clear hwd y2 z2 d0
 have hS:=Below.refl wd.heap.size wd
 have d0 : wd.cell? ⟨w.heap.size,0,none⟩ = some (.slice (some ⟨g,off,none⟩) ps.length cap):=J0.out.c 0 (by simp)
 have y2 : wd.cell? ⟨w.heap.size + 1 + 1,0,none⟩ = some (.slice (some ⟨gu,0,none⟩) ps.length cu):=J2.out.c 0 (by simp)
 have l0:=J0.out.lt
 have l2:=J2.out.lt
 have x0 : wd.cell? ⟨g,off + j * 5,none⟩ = some (.int .i64 st):=(HB6.out.cell (p:=⟨g,off + j * 5,none⟩) lg).trans (HCELL.out 0 (by omega))
 have x1 : wd.cell? ⟨g,off + j * 5 + 1,none⟩ = some (.int .i64 k):=(HB6.out.cell (p:=⟨g,off + j * 5 + 1,none⟩) lg).trans (HCELL.out 1 (by omega))
 have x2 : wd.cell? ⟨g,off + j * 5 + 2,none⟩ = some (.int .i64 n):=(HB6.out.cell (p:=⟨g,off + j * 5 + 2,none⟩) lg).trans (HCELL.out 2 (by omega))
 have x3 : wd.cell? ⟨g,off + j * 5 + 3,none⟩ = some (.slice ap pac.length cp):=(HB6.out.cell (p:=⟨g,off + j * 5 + 3,none⟩) lg).trans (HCELL.out 3 (by omega))
 have x4 : wd.cell? ⟨g,off + j * 5 + 4,none⟩ = some (.bool pt):=(HB6.out.cell (p:=⟨g,off + j * 5 + 4,none⟩) lg).trans (HCELL.out 4 (by omega))
 have lgw:=lg
 have lg : g < wd.heap.size:=Nat.lt_of_lt_of_le lg HB6.out.size
 have WI:=hidE (with_any ⟨st,k,n,pt,pac,.slice ap pac.length cp⟩ vs _ wd hal (accR_below HACC.out HB6.out) HAK.out (rowG_below HV.out HB6.out) HVL.out)
 unfold aggP at WI
 simp only at WI
 refine last_take (i:=0) (v:=.pointer (some ⟨w.heap.size + 1 + 1,0,none⟩)) (L:=#[true,false,false,false,false,false,false,false,false,false,false,false]) [1,10,11] rfl (by kernel_rfl) (by kernel_rfl) (by kernel_rfl) (by kernel_rfl) (by kernel_rfl) (fun c a w h => h) (Or.inl ⟨by kernel_rfl,fun wq hq => by go_simp⟩) hS (by kernel_rfl) ?_
 refine last_take (i:=1) (v:=.slice (some ⟨gu,0,none⟩) ps.length cu) (L:=#[true,true,false,false,false,false,false,false,false,false,false,false]) [10,11] rfl (by kernel_rfl) (by kernel_rfl) (by kernel_rfl) (by kernel_rfl) (by kernel_rfl) (fun c a w h => h) (Or.inl ⟨by kernel_rfl,fun wq hq => by have q:=hq.cell (p:=⟨w.heap.size + 1 + 1,0,none⟩) l2;rw [y2] at q;go_simp⟩) hS (by kernel_rfl) ?_
 refine last_take (i:=2) (v:=.int .i64 (j : Int)) (L:=#[true,true,true,false,false,false,false,false,false,false,false,false]) [10,11] rfl (by kernel_rfl) (by kernel_rfl) (by kernel_rfl) (by kernel_rfl) (by kernel_rfl) (fun c a w h => h) (Or.inl ⟨by kernel_rfl,fun wq hq => by go_simp⟩) hS (by kernel_rfl) ?_
 refine last_take (i:=3) (v:=.pointer (some ⟨w.heap.size,0,none⟩)) (L:=#[true,true,true,true,false,false,false,false,false,false,false,false]) [4,6,7,9,10,11] rfl (by kernel_rfl) (by kernel_rfl) (by kernel_rfl) (by kernel_rfl) (by kernel_rfl) (fun c a w h => h) (Or.inl ⟨by kernel_rfl,fun wq hq => by go_simp⟩) hS (by kernel_rfl) ?_
 refine last_take (i:=4) (v:=.slice (some ⟨g,off,none⟩) ps.length cap) (L:=#[true,true,true,true,true,false,false,false,false,false,false,false]) [6,7,9,10,11] rfl (by kernel_rfl) (by kernel_rfl) (by kernel_rfl) (by kernel_rfl) (by kernel_rfl) (fun c a w h => h) (Or.inl ⟨by kernel_rfl,fun wq hq => by have q:=hq.cell (p:=⟨w.heap.size,0,none⟩) l0;rw [d0] at q;go_simp⟩) hS (by kernel_rfl) ?_
 refine last_take (i:=5) (v:=.int .i64 (j : Int)) (L:=#[true,true,true,true,true,true,false,false,false,false,false,false]) [6,7,9,10,11] rfl (by kernel_rfl) (by kernel_rfl) (by kernel_rfl) (by kernel_rfl) (by kernel_rfl) (fun c a w h => h) (Or.inl ⟨by kernel_rfl,fun wq hq => by go_simp⟩) hS (by kernel_rfl) ?_
 refine last_take (i:=6) (v:=.pointer (some ⟨g,off + j * 5,none⟩)) (L:=#[true,true,true,true,true,true,true,false,false,false,false,false]) [7,9,10,11] rfl (by kernel_rfl) (by kernel_rfl) (by kernel_rfl) (by kernel_rfl) (by kernel_rfl) (fun c a w h => h) (Or.inl ⟨by kernel_rfl,fun wq hq => by go_simp⟩) hS (by kernel_rfl) ?_
 refine last_take (i:=7) (v:=.agg #[.int .i64 st,.int .i64 k,.int .i64 n,.slice ap pac.length cp,.bool pt]) (L:=#[true,true,true,true,true,true,true,true,false,false,false,false]) [9,10,11] rfl (by kernel_rfl) (by kernel_rfl) (by kernel_rfl) (by kernel_rfl) (by kernel_rfl) (fun c a w h => h) (Or.inl ⟨by kernel_rfl,fun wq hq => by have q0:=hq.cell (p:=⟨g,off + j * 5,none⟩) lg;rw [x0] at q0;have q1:=hq.cell (p:=⟨g,off + j * 5 + 1,none⟩) lg;rw [x1] at q1;have q2:=hq.cell (p:=⟨g,off + j * 5 + 2,none⟩) lg;rw [x2] at q2;have q3:=hq.cell (p:=⟨g,off + j * 5 + 3,none⟩) lg;rw [x3] at q3;have q4:=hq.cell (p:=⟨g,off + j * 5 + 4,none⟩) lg;rw [x4] at q4;go_simp⟩) hS (by kernel_rfl) ?_
 refine last_take (i:=8) (v:=.slice aov vs.length capv) (L:=#[true,true,true,true,true,true,true,true,true,false,false,false]) [9,10,11] rfl (by kernel_rfl) (by kernel_rfl) (by kernel_rfl) (by kernel_rfl) (by kernel_rfl) (fun c a w h => h) (Or.inl ⟨by kernel_rfl,fun wq hq => by go_simp⟩) hS (by kernel_rfl) ?_
 refine last_go (i:=9) (L:=#[true,true,true,true,true,true,true,true,true,true,false,false]) (by kernel_rfl) rfl (by kernel_rfl) (by kernel_rfl) ?_
 intro K' hK
 go_simp
 refine WI.out.mono ?_
 rintro e w4 ⟨u4,rfl,ho4,hb4⟩
 have AR4:=hidE (rowS_of_owns ho4)
 have NA4:=hidE (fun k hk => (own_at ho4 k hk).1)
 obtain ⟨a4,c4,rfl⟩:=owns_shapeE ho4
 have HB4:=hidE hb4
 refine hK _ _ ⟨fun _ => hb4,?_⟩
 clear hK ho4 hb4 WI
 refine last_go (i:=10) (L:=#[true,true,true,true,true,true,true,true,true,true,true,false]) (by kernel_rfl) rfl (by kernel_rfl) (by kernel_rfl) ?_
 intro K' hK
 go_simp
 refine hK _ _ ⟨fun _ => HB4.out,?_⟩
 clear hK
 have KO4:=hidE (own_keep KO.out HB4.out (Nat.le_refl _))
 have hrl : (rowOf cellsPn ps).length = ps.length * 5:=rowOf_len cellsPn_len ps
 have s0:=KO4.out.cellAt (j * 5) (by omega)
 rw [List.getElem?_eq_getElem (by omega)] at s0
 generalize (rowOf cellsPn ps)[j * 5] = r0 at s0
 have z0:=owns_thawG2 KO4.out (j * 5)
 have s1:=KO4.out.cellAt (j * 5 + 1) (by omega)
 rw [List.getElem?_eq_getElem (by omega)] at s1
 generalize (rowOf cellsPn ps)[j * 5 + 1] = r1 at s1
 have z1:=owns_thawG2 KO4.out (j * 5 + 1)
 have s2:=KO4.out.cellAt (j * 5 + 2) (by omega)
 rw [List.getElem?_eq_getElem (by omega)] at s2
 generalize (rowOf cellsPn ps)[j * 5 + 2] = r2 at s2
 have z2:=owns_thawG2 KO4.out (j * 5 + 2)
 have s3:=KO4.out.cellAt (j * 5 + 3) (by omega)
 rw [List.getElem?_eq_getElem (by omega)] at s3
 generalize (rowOf cellsPn ps)[j * 5 + 3] = r3 at s3
 have z3:=owns_thawG2 KO4.out (j * 5 + 3)
 have s4:=KO4.out.cellAt (j * 5 + 4) (by omega)
 rw [List.getElem?_eq_getElem (by omega)] at s4
 generalize (rowOf cellsPn ps)[j * 5 + 4] = r4 at s4
 have z4:=owns_thawG2 KO4.out (j * 5 + 4)
 clear hrl
 refine last_go (i:=11) (L:=#[true,true,true,true,true,true,true,true,true,true,true,true]) (by kernel_rfl) rfl (by kernel_rfl) (by kernel_rfl) ?_
 intro K' hK
 go_simp
 refine hK _ _ ⟨fun h => absurd rfl h,?_⟩
 clear hK s0 s1 s2 s3 s4 z0 z1 z2 z3 z4
 refine last_done (by kernel_rfl) ?_ _
 have gul:=(own_at KO.out gu rfl).2
 have NO:=(owns_setG (owns_setG (owns_setG (owns_setG (owns_setG KO4.out (j * 5) (.int .i64 st)) (j * 5 + 1) (.int .i64 k)) (j * 5 + 2) (.int .i64 n)) (j * 5 + 3) (.slice a4 pac.length c4)) (j * 5 + 4) (.bool pt))
 rw [rowP_set ps j ⟨st,k,n,pt,addL pac vs,.slice a4 pac.length c4⟩ hj] at NO
 have N0:=(blk_far (blk_far (blk_far (blk_far (blk_far (blk_below J0.out HB4.out J0.out.lt) (g':=gu) (by omega) (j * 5) (.int .i64 st)) (g':=gu) (by omega) (j * 5 + 1) (.int .i64 k)) (g':=gu) (by omega) (j * 5 + 2) (.int .i64 n)) (g':=gu) (by omega) (j * 5 + 3) (.slice a4 pac.length c4)) (g':=gu) (by omega) (j * 5 + 4) (.bool pt))
 have N2:=(blk_far (blk_far (blk_far (blk_far (blk_far (blk_below J2.out HB4.out J2.out.lt) (g':=gu) (by omega) (j * 5) (.int .i64 st)) (g':=gu) (by omega) (j * 5 + 1) (.int .i64 k)) (g':=gu) (by omega) (j * 5 + 2) (.int .i64 n)) (g':=gu) (by omega) (j * 5 + 3) (.slice a4 pac.length c4)) (g':=gu) (by omega) (j * 5 + 4) (.bool pt))
 have N3:=(blk_far (blk_far (blk_far (blk_far (blk_far (blk_below J3.out HB4.out J3.out.lt) (g':=gu) (by omega) (j * 5) (.int .i64 st)) (g':=gu) (by omega) (j * 5 + 1) (.int .i64 k)) (g':=gu) (by omega) (j * 5 + 2) (.int .i64 n)) (g':=gu) (by omega) (j * 5 + 3) (.slice a4 pac.length c4)) (g':=gu) (by omega) (j * 5 + 4) (.bool pt))
 have NB:=hidE ((((((HB6.out.trans (HB4.out.mono HB6.out.size)).setCell (p:=⟨gu,j * 5,none⟩) (by show _ ≤ gu;omega) (.int .i64 st)).setCell (p:=⟨gu,j * 5 + 1,none⟩) (by show _ ≤ gu;omega) (.int .i64 k)).setCell (p:=⟨gu,j * 5 + 2,none⟩) (by show _ ≤ gu;omega) (.int .i64 n)).setCell (p:=⟨gu,j * 5 + 3,none⟩) (by show _ ≤ gu;omega) (.slice a4 pac.length c4)).setCell (p:=⟨gu,j * 5 + 4,none⟩) (by show _ ≤ gu;omega) (.bool pt))
 have K45:=(keptB_set (keptB_set (keptB_set (keptB_set (keptB_set (keptB_of_below (bad:=fun k => k = gu) (Below.refl w4.heap.size w4)) rfl (j * 5) (.int .i64 st)) rfl (j * 5 + 1) (.int .i64 k)) rfl (j * 5 + 2) (.int .i64 n)) rfl (j * 5 + 3) (.slice a4 pac.length c4)) rfl (j * 5 + 4) (.bool pt))
 have AR5:=rowS_kept AR4.out K45 (fun k hk e => by have:=NA4.out k hk;omega)
 have dd : Below (((((w4.setCell ⟨gu,j * 5,none⟩ (.int .i64 st)).setCell ⟨gu,j * 5 + 1,none⟩ (.int .i64 k)).setCell ⟨gu,j * 5 + 2,none⟩ (.int .i64 n)).setCell ⟨gu,j * 5 + 3,none⟩ (.slice a4 pac.length c4)).setCell ⟨gu,j * 5 + 4,none⟩ (.bool pt)).heap.size (((((w4.setCell ⟨gu,j * 5,none⟩ (.int .i64 st)).setCell ⟨gu,j * 5 + 1,none⟩ (.int .i64 k)).setCell ⟨gu,j * 5 + 2,none⟩ (.int .i64 n)).setCell ⟨gu,j * 5 + 3,none⟩ (.slice a4 pac.length c4)).setCell ⟨gu,j * 5 + 4,none⟩ (.bool pt)) ({ (((((w4.setCell ⟨gu,j * 5,none⟩ (.int .i64 st)).setCell ⟨gu,j * 5 + 1,none⟩ (.int .i64 k)).setCell ⟨gu,j * 5 + 2,none⟩ (.int .i64 n)).setCell ⟨gu,j * 5 + 3,none⟩ (.slice a4 pac.length c4)).setCell ⟨gu,j * 5 + 4,none⟩ (.bool pt)) with drawn:=(((((w4.setCell ⟨gu,j * 5,none⟩ (.int .i64 st)).setCell ⟨gu,j * 5 + 1,none⟩ (.int .i64 k)).setCell ⟨gu,j * 5 + 2,none⟩ (.int .i64 n)).setCell ⟨gu,j * 5 + 3,none⟩ (.slice a4 pac.length c4)).setCell ⟨gu,j * 5 + 4,none⟩ (.bool pt)).drawn + 1 } : World):=(Below.refl _ _).drew
 have P0:=hidE (blk_below N0 dd N0.lt)
 have P2:=hidE (blk_below N2 dd N2.lt)
 have P3:=hidE (blk_below N3 dd N3.lt)
 have PO:=hidE (own_keep NO dd (Nat.le_refl _))
 have PB:=nxt NB dd
 have PR:=hidE (rowS_below AR5 dd)
 have NA5 : Hid (∀ k,(Value.slice a4 pac.length c4).ownBlock = some k → w.heap.size + 1 + 1 + 1 < k):=fun k hk => by
  have:=NA4.out k hk
  have:=J3.out.lt
  omega
 have gu3 : w.heap.size + 1 + 1 + 1 < gu:=by omega
 clear NO N0 N2 N3 NB K45 AR5 dd J0 J2 J3 KO KO4 HB4 HB6 AR4 NA4 x0 x1 x2 x3 x4 d0 y2 l0 l2 lg gul hS
 go_wp2_with fail
 refine wp_region_last (fun w' => KeptB ({ (((((w4.setCell ⟨gu,j * 5,none⟩ (.int .i64 st)).setCell ⟨gu,j * 5 + 1,none⟩ (.int .i64 k)).setCell ⟨gu,j * 5 + 2,none⟩ (.int .i64 n)).setCell ⟨gu,j * 5 + 3,none⟩ (.slice a4 pac.length c4)).setCell ⟨gu,j * 5 + 4,none⟩ (.bool pt)) with drawn:=(((((w4.setCell ⟨gu,j * 5,none⟩ (.int .i64 st)).setCell ⟨gu,j * 5 + 1,none⟩ (.int .i64 k)).setCell ⟨gu,j * 5 + 2,none⟩ (.int .i64 n)).setCell ⟨gu,j * 5 + 3,none⟩ (.slice a4 pac.length c4)).setCell ⟨gu,j * 5 + 4,none⟩ (.bool pt)).drawn + 1 } : World) w' (fun k => k = w.heap.size + 1 + 1 ∨ k = w.heap.size + 1 + 1 + 1) ∧ w'.cell? ⟨w.heap.size + 1 + 1,0,none⟩ = some (.slice (some ⟨gu,0,none⟩) ps.length cu)) 9 (by kernel_rfl) ?_
 generalize hwe : ({ (((((w4.setCell ⟨gu,j * 5,none⟩ (.int .i64 st)).setCell ⟨gu,j * 5 + 1,none⟩ (.int .i64 k)).setCell ⟨gu,j * 5 + 2,none⟩ (.int .i64 n)).setCell ⟨gu,j * 5 + 3,none⟩ (.slice a4 pac.length c4)).setCell ⟨gu,j * 5 + 4,none⟩ (.bool pt)) with drawn:=(((((w4.setCell ⟨gu,j * 5,none⟩ (.int .i64 st)).setCell ⟨gu,j * 5 + 1,none⟩ (.int .i64 k)).setCell ⟨gu,j * 5 + 2,none⟩ (.int .i64 n)).setCell ⟨gu,j * 5 + 3,none⟩ (.slice a4 pac.length c4)).setCell ⟨gu,j * 5 + 4,none⟩ (.bool pt)).drawn + 1 } : World) = we at *
 clear hwe
 have d0 : we.cell? ⟨w.heap.size,0,none⟩ = some (.slice (some ⟨g,off,none⟩) ps.length cap):=P0.out.c 0 (by simp)
 have l0:=P0.out.lt
 have nb0 : ¬ (w.heap.size = w.heap.size + 1 + 1 ∨ w.heap.size = w.heap.size + 1 + 1 + 1):=by omega
 have nbg : ¬ (g = w.heap.size + 1 + 1 ∨ g = w.heap.size + 1 + 1 + 1):=by omega
 have y2 : we.cell? ⟨w.heap.size + 1 + 1,0,none⟩ = some (.slice (some ⟨gu,0,none⟩) ps.length cu):=P2.out.c 0 (by simp)
 have hS : KeptB we we (fun k => k = w.heap.size + 1 + 1 ∨ k = w.heap.size + 1 + 1 + 1) ∧ we.cell? ⟨w.heap.size + 1 + 1,0,none⟩ = some (.slice (some ⟨gu,0,none⟩) ps.length cu):=⟨keptB_of_below (Below.refl _ _),y2⟩
 have x0 : we.cell? ⟨g,off + j * 5,none⟩ = some (.int .i64 st):=(PB.out.cell (p:=⟨g,off + j * 5,none⟩) lgw).trans (HCELL.out 0 (by omega))
 have x1 : we.cell? ⟨g,off + j * 5 + 1,none⟩ = some (.int .i64 k):=(PB.out.cell (p:=⟨g,off + j * 5 + 1,none⟩) lgw).trans (HCELL.out 1 (by omega))
 have x2 : we.cell? ⟨g,off + j * 5 + 2,none⟩ = some (.int .i64 n):=(PB.out.cell (p:=⟨g,off + j * 5 + 2,none⟩) lgw).trans (HCELL.out 2 (by omega))
 have x3 : we.cell? ⟨g,off + j * 5 + 3,none⟩ = some (.slice ap pac.length cp):=(PB.out.cell (p:=⟨g,off + j * 5 + 3,none⟩) lgw).trans (HCELL.out 3 (by omega))
 have x4 : we.cell? ⟨g,off + j * 5 + 4,none⟩ = some (.bool pt):=(PB.out.cell (p:=⟨g,off + j * 5 + 4,none⟩) lgw).trans (HCELL.out 4 (by omega))
 have lg : g < we.heap.size:=Nat.lt_of_lt_of_le lgw PB.out.size
 have OW:=hidE (own_any ⟨st,k,n,pt,pac,.slice ap pac.length cp⟩ we (by simp only;omega) (accR_below HACC.out PB.out))
 unfold aggP at OW
 simp only at OW
 refine last_take (i:=1) (v:=.pointer (some ⟨w.heap.size,0,none⟩)) (L:=#[false,true,false,false,false,false,false,false,false,false]) [2,4,5,6,7,8,9] rfl (by kernel_rfl) (by kernel_rfl) (by kernel_rfl) (by kernel_rfl) (by kernel_rfl) (fun c a w h => h) (Or.inl ⟨by kernel_rfl,fun wq hq => by go_simp⟩) hS (by kernel_rfl) ?_
 refine last_take (i:=2) (v:=.slice (some ⟨g,off,none⟩) ps.length cap) (L:=#[false,true,true,false,false,false,false,false,false,false]) [4,5,6,7,8,9] rfl (by kernel_rfl) (by kernel_rfl) (by kernel_rfl) (by kernel_rfl) (by kernel_rfl) (fun c a w h => h) (Or.inl ⟨by kernel_rfl,fun wq hq => by have q:=kept_cell hq.1 (0) l0 nb0;rw [d0] at q;go_simp⟩) hS (by kernel_rfl) ?_
 refine last_take (i:=3) (v:=.int .i64 (j : Int)) (L:=#[false,true,true,true,false,false,false,false,false,false]) [4,5,6,7,8,9] rfl (by kernel_rfl) (by kernel_rfl) (by kernel_rfl) (by kernel_rfl) (by kernel_rfl) (fun c a w h => h) (Or.inl ⟨by kernel_rfl,fun wq hq => by go_simp⟩) hS (by kernel_rfl) ?_
 refine last_take (i:=4) (v:=.pointer (some ⟨g,off + j * 5,none⟩)) (L:=#[false,true,true,true,true,false,false,false,false,false]) [5,6,7,8,9] rfl (by kernel_rfl) (by kernel_rfl) (by kernel_rfl) (by kernel_rfl) (by kernel_rfl) (fun c a w h => h) (Or.inl ⟨by kernel_rfl,fun wq hq => by go_simp⟩) hS (by kernel_rfl) ?_
 refine last_take (i:=5) (v:=.agg #[.int .i64 st,.int .i64 k,.int .i64 n,.slice ap pac.length cp,.bool pt]) (L:=#[false,true,true,true,true,true,false,false,false,false]) [6,7,8,9] rfl (by kernel_rfl) (by kernel_rfl) (by kernel_rfl) (by kernel_rfl) (by kernel_rfl) (fun c a w h => h) (Or.inl ⟨by kernel_rfl,fun wq hq => by have q0:=kept_cell hq.1 (off + j * 5) lg nbg;rw [x0] at q0;have q1:=kept_cell hq.1 (off + j * 5 + 1) lg nbg;rw [x1] at q1;have q2:=kept_cell hq.1 (off + j * 5 + 2) lg nbg;rw [x2] at q2;have q3:=kept_cell hq.1 (off + j * 5 + 3) lg nbg;rw [x3] at q3;have q4:=kept_cell hq.1 (off + j * 5 + 4) lg nbg;rw [x4] at q4;go_simp⟩) hS (by kernel_rfl) ?_
 refine last_take (i:=0) (v:=.agg #[.slice (some ⟨gu,0,none⟩) ps.length cu]) (L:=#[true,true,true,true,true,true,false,false,false,false]) [7,8,9] rfl (by kernel_rfl) (by kernel_rfl) (by kernel_rfl) (by kernel_rfl) (by kernel_rfl) (fun c a w h => h) (Or.inl ⟨by kernel_rfl,fun wq hq => by have q:=hq.2;go_simp⟩) hS (by kernel_rfl) ?_
 refine last_go (i:=6) (L:=#[true,true,true,true,true,true,true,false,false,false]) (by kernel_rfl) rfl (by kernel_rfl) (by kernel_rfl) ?_
 intro K' hK
 go_simp
 refine OW.out.mono ?_
 rintro e w8 ⟨u8,rfl,ho,hb⟩
 have AR8:=hidE (rowS_of_owns ho)
 have NA8:=hidE (fun k hk => (own_at ho k hk).1)
 obtain ⟨a8,c8,rfl⟩:=owns_shapeE ho
 have HS8 : Hid (KeptB we w8 (fun k => k = w.heap.size + 1 + 1 ∨ k = w.heap.size + 1 + 1 + 1)):=keptB_of_below hb
 have K2:=blk_below P2.out hb P2.out.lt
 have K3:=blk_below P3.out hb P3.out.lt
 have t2 : w8.cell? ⟨w.heap.size + 1 + 1,0,none⟩ = some (.slice (some ⟨gu,0,none⟩) ps.length cu):=K2.c 0 (by simp)
 refine hK _ _ ⟨fun _ => ⟨HS8.out,t2⟩,?_⟩
 clear hK ho hb OW
 have f2:=K2.fz 0
 have g0 : w8.cell? ⟨w.heap.size + 1 + 1 + 1,0,none⟩ = some (.int .i64 0):=K3.c 0 (by simp)
 have z0:=K3.fz 0
 have g1 : w8.cell? ⟨w.heap.size + 1 + 1 + 1,1,none⟩ = some (.int .i64 0):=K3.c 1 (by simp)
 have z1:=K3.fz 1
 have g2 : w8.cell? ⟨w.heap.size + 1 + 1 + 1,2,none⟩ = some (.int .i64 0):=K3.c 2 (by simp)
 have z2:=K3.fz 2
 have g3 : w8.cell? ⟨w.heap.size + 1 + 1 + 1,3,none⟩ = some (.slice none 0 0):=K3.c 3 (by simp)
 have z3:=K3.fz 3
 have g4 : w8.cell? ⟨w.heap.size + 1 + 1 + 1,4,none⟩ = some (.bool false):=K3.c 4 (by simp)
 have z4:=K3.fz 4
 have V2:=blk_set K2 0 (.slice (some ⟨gu,0,none⟩) ps.length cu) (by simp)
 have V3:=hidE (blk_far (blk_far (blk_far (blk_far (blk_far V2 (g':=w.heap.size + 1 + 1 + 1) (by omega) 0 (.int .i64 st)) (g':=w.heap.size + 1 + 1 + 1) (by omega) 1 (.int .i64 k)) (g':=w.heap.size + 1 + 1 + 1) (by omega) 2 (.int .i64 n)) (g':=w.heap.size + 1 + 1 + 1) (by omega) 3 (.slice a8 pac.length c8)) (g':=w.heap.size + 1 + 1 + 1) (by omega) 4 (.bool pt))
 have V2:=hidE V2
 clear K2 K3
 refine last_go (i:=7) (L:=#[true,true,true,true,true,true,true,true,false,false]) (by kernel_rfl) rfl (by kernel_rfl) (by kernel_rfl) ?_
 intro K' hK
 go_simp
 refine hK _ _ ⟨fun _ => ⟨(keptB_set HS8.out (.inl rfl) 0 _),V2.out.c 0 (by simp)⟩,?_⟩
 clear hK
 refine last_go (i:=8) (L:=#[true,true,true,true,true,true,true,true,true,false]) (by kernel_rfl) rfl (by kernel_rfl) (by kernel_rfl) ?_
 intro K' hK
 go_simp
 refine hK _ _ ⟨fun _ => ⟨(keptB_set (keptB_set (keptB_set (keptB_set (keptB_set (keptB_set HS8.out (.inl rfl) 0 _) (.inr rfl) 0 _) (.inr rfl) 1 _) (.inr rfl) 2 _) (.inr rfl) 3 _) (.inr rfl) 4 _),V3.out.c 0 (by simp)⟩,?_⟩
 clear hK
 refine last_go (i:=9) (L:=#[true,true,true,true,true,true,true,true,true,true]) (by kernel_rfl) rfl (by kernel_rfl) (by kernel_rfl) ?_
 intro K' hK
 go_simp
 refine hK _ _ ⟨fun h => absurd rfl h,?_⟩
 clear hK
 refine last_done (by kernel_rfl) ?_ _
 clear V2 V3
 go_wp2_with fail
 have HS9 : Hid (KeptB we ((((((w8.setCell ⟨w.heap.size + 1 + 1,0,none⟩ (.slice (some ⟨gu,0,none⟩) ps.length cu)).setCell ⟨w.heap.size + 1 + 1 + 1,0,none⟩ (.int .i64 st)).setCell ⟨w.heap.size + 1 + 1 + 1,1,none⟩ (.int .i64 k)).setCell ⟨w.heap.size + 1 + 1 + 1,2,none⟩ (.int .i64 n)).setCell ⟨w.heap.size + 1 + 1 + 1,3,none⟩ (.slice a8 pac.length c8)).setCell ⟨w.heap.size + 1 + 1 + 1,4,none⟩ (.bool pt)) (fun k => k = w.heap.size + 1 + 1 ∨ k = w.heap.size + 1 + 1 + 1)):=(keptB_set (keptB_set (keptB_set (keptB_set (keptB_set (keptB_set HS8.out (.inl rfl) 0 (.slice (some ⟨gu,0,none⟩) ps.length cu)) (.inr rfl) 0 (.int .i64 st)) (.inr rfl) 1 (.int .i64 k)) (.inr rfl) 2 (.int .i64 n)) (.inr rfl) 3 (.slice a8 pac.length c8)) (.inr rfl) 4 (.bool pt))
 have K89 : Hid (KeptB w8 ((((((w8.setCell ⟨w.heap.size + 1 + 1,0,none⟩ (.slice (some ⟨gu,0,none⟩) ps.length cu)).setCell ⟨w.heap.size + 1 + 1 + 1,0,none⟩ (.int .i64 st)).setCell ⟨w.heap.size + 1 + 1 + 1,1,none⟩ (.int .i64 k)).setCell ⟨w.heap.size + 1 + 1 + 1,2,none⟩ (.int .i64 n)).setCell ⟨w.heap.size + 1 + 1 + 1,3,none⟩ (.slice a8 pac.length c8)).setCell ⟨w.heap.size + 1 + 1 + 1,4,none⟩ (.bool pt)) (fun k => k = w.heap.size + 1 + 1 ∨ k = w.heap.size + 1 + 1 + 1)):=(keptB_set (keptB_set (keptB_set (keptB_set (keptB_set (keptB_set (keptB_of_below (Below.refl _ _)) (.inl rfl) 0 (.slice (some ⟨gu,0,none⟩) ps.length cu)) (.inr rfl) 0 (.int .i64 st)) (.inr rfl) 1 (.int .i64 k)) (.inr rfl) 2 (.int .i64 n)) (.inr rfl) 3 (.slice a8 pac.length c8)) (.inr rfl) 4 (.bool pt))
 have HB9:=hidE (PB.out.trans (keptB_below HS9.out PB.out.size (fun k hk => by omega)))
 refine bodyPost_ret (v:=.tuple #[.agg #[.slice (some ⟨gu,0,none⟩) ps.length cu],.agg #[.int .i64 st,.int .i64 k,.int .i64 n,.slice a8 pac.length c8,.bool pt],.bool true]) (by simp [results,Tryz.results62,go_sem,t2,g0,g1,g2,g3,g4]) rfl ?_
 refine ⟨_,.slice a4 pac.length c4,.slice a8 pac.length c8,rfl,⟨?_,?_⟩,?_,⟨fun k hk => by
  have h1 : gu = k:=by simpa [Value.ownBlock] using hk
  omega,fun k hk => by
  have h1:=NA5.out k hk
  omega,fun k hk => by
  have h1:=NA8.out k hk
  have h2:=PB.out.size
  omega⟩,HB9.out⟩
 ·have e1 : (ps.set j (⟨st,k,n,pt,addL pac vs,.slice a4 pac.length c4⟩ : Pn)).length = ps.length:=by simp
  rw [e1]
  exact rowS_kept (rowS_kept (rowS_of_owns PO.out) HS9.out (fun k hk hbad => by
   have h1 : gu = k:=by simpa [Value.ownBlock] using hk
   omega)) (keptB_of_below (bad:=fun _ => False) (Below.refl _ _)) (fun k hk hbad => hbad)
 ·intro p hp
  rcases List.mem_or_eq_of_mem_set hp with hp | rfl
  ·exact accR_below (HT.out.acc p hp) HB9.out
  ·show RowS _ _ _ _ _
   have hlen : (addL pac vs).length = pac.length:=by simp [addL,HVL.out]
   simp only [hlen]
   exact rowS_kept PR.out HS9.out (fun k hk hbad => by
    have h1:=NA5.out k hk
    omega)
 ·exact rowS_kept AR8.out K89.out (fun k hk hbad => by
   have h1:=NA8.out k hk
   have h2:=P3.out.lt
   omega)
end Go.Proofs.YtcgjflamgnjhcaaGreatDoor

/- Several texts in one, each with its own head. What is proved: what the parts say. Conditions: theirs. -/
import Derived.Test.YteaanpdckkmjoaaGreatDoorTx5J
import Derived.Test.YteaanpdckkmjoaaGreatDoorSameJ
import Derived.Test.YteaanpdckkmjoaaGreatDoorQtGJ
set_option linter.unusedVariables false
set_option linter.unusedSimpArgs false
set_option maxRecDepth 100000
set_option maxHeartbeats 8000000
namespace Go.Proofs.YteaanpdckkmjoaaGreatDoor
open Go.ChangeShapes Go.WideShapes Go.ChangeAt Go.RowKit
theorem neq_nodeQ (w : World) (a b c d x y : Int) : (binOp .neq 91 (.agg #[.int .i64 a,.int .i64 b,.int .i64 c,.int .i64 d,.int .i64 x,.int .i64 y]) (.agg #[.int .i64 a,.int .i64 b,.int .i64 c,.int .i64 d,.int .i64 x,.int .i64 y])).run Tryz.prog w = .ok (.bool false) w:=by
 go_simp
attribute [local go_sem ↓] neq_nodeQ
theorem nodes_sameQ (w : World) (v u : Value) (l : List Nd) (hl : l.length ≤ 1000) (hx : RowG w v 6 l.length (rowN l)) (hy : RowG w u 6 l.length (rowN l)) :
  Calls Tryz.prog 38 #[v,u] w fun e w' => e = .returned (.bool true) ∧ Below w.heap.size w w':=by
 obtain ⟨ao,cap,rfl⟩:=rowG_shape hx
 obtain ⟨ao2,cap2,rfl⟩:=rowG_shape hy
 have HX:=hidE hx
 have HY:=hidE hy
 clear hx hy
 have kn:=kin_some w
 obtain ⟨kc,kf⟩:=kin_rules w
 have hb : ((l.length : Int) != (l.length : Int)) = false:=by simp
 go_enter Tryz.func38,Tryz.ntmps38
 go_wp2_with fail
 go_loopw [5] (fun i wr => ∃ k : Nat,k ≤ l.length ∧ i = .int .i64 k ∧ Hid (Below w.heap.size w wr)) (fun i _ => l.length - (intOf i).toNat)
 case atStart => exact ⟨0,Nat.zero_le _,rfl,Below.refl _ _⟩
 case round =>
  obtain ⟨k,hk,rfl,HB⟩:=hrel
  by_cases hlt : k < l.length
  ·obtain ⟨g,off,rfl,⟨n0,n1,n2,n3,n4,n5⟩,l1,l2,l3⟩:=rowN_node HX.out _ hlt
   obtain ⟨g2,off2,rfl,⟨m0,m1,m2,m3,m4,m5⟩,p1,p2,p3⟩:=rowN_node HY.out _ hlt
   generalize l[k] = nd at *
   unfold maxLen at l2 p2
   go_wp2_with fail
   refine wp_region_kin HB (by kernel_rfl) (by kernel_rfl) ?_
   repeat (go_big_quiet_step (fail))
   refine wpQuiet_nil ?_
   rintro _ ⟨p,rfl⟩
   go_wp2_with fail
   go_roundw
   case rel => exact ⟨k + 1,by omega,by go_num,p.h⟩
   case measure => simp [intOf];omega
  ·have hkn : ¬ ((k : Int) < (l.length : Int)):=by omega
   go_wp2_with fail
   go_ret
   exact ⟨rfl,HB.out⟩
theorem query_same (w : World) (q : Qy) (va1 vw1 vb1 va2 vw2 vb2 : Value) (ps1 ps2 : List (AgQ × Value)) (h1 : QyG w va1 vw1 vb1 q ps1) (h2 : QyG w va2 vw2 vb2 q ps2) (hn : q.aggs.length ≤ 1000) :
  Calls Tryz.prog 14 #[qyV va1 vw1 vb1 q,qyV va2 vw2 vb2 q] w fun e w' => e = .returned (.bool true) ∧ Below w.heap.size w w':=by
 obtain ⟨ao1,cap1,rfl⟩:=rowG_shape h1.ag.row
 obtain ⟨aw1,cw1,rfl⟩:=rowG_shape h1.wh
 obtain ⟨ab1,cb1,rfl⟩:=rowG_shape h1.by_
 obtain ⟨ao2,cap2,rfl⟩:=rowG_shape h2.ag.row
 obtain ⟨aw2,cw2,rfl⟩:=rowG_shape h2.wh
 obtain ⟨ab2,cb2,rfl⟩:=rowG_shape h2.by_
 have l1 : ps1.length = q.aggs.length:=by rw [← h1.qa];simp
 have l2 : ps2.length = q.aggs.length:=by rw [← h2.qa];simp
 rw [l1] at h1 ⊢
 rw [l2] at h2 ⊢
 unfold qyV
 have b1:=below_alloc w (.cells #[.slice ao1 q.aggs.length cap1,.slice aw1 q.wh.length cw1,.slice ab1 q.bys.length cb1,.int .i64 q.size,.int .i64 q.slide,.int .i64 q.delay,.int .i64 q.late] 25)
 have b2:=below_alloc (w.alloc (.cells #[.slice ao1 q.aggs.length cap1,.slice aw1 q.wh.length cw1,.slice ab1 q.bys.length cb1,.int .i64 q.size,.int .i64 q.slide,.int .i64 q.delay,.int .i64 q.late] 25)) (.cells #[.slice ao2 q.aggs.length cap2,.slice aw2 q.wh.length cw2,.slice ab2 q.bys.length cb2,.int .i64 q.size,.int .i64 q.slide,.int .i64 q.delay,.int .i64 q.late] 25)
 have hz1 : (w.alloc (.cells #[.slice ao1 q.aggs.length cap1,.slice aw1 q.wh.length cw1,.slice ab1 q.bys.length cb1,.int .i64 q.size,.int .i64 q.slide,.int .i64 q.delay,.int .i64 q.late] 25)).heap.size = w.heap.size + 1:=by simp
 have B0:=hidE (b1.trans (b2.mono b1.size))
 have K1:=hidE (blk_below (blk_alloc w [.slice ao1 q.aggs.length cap1,.slice aw1 q.wh.length cw1,.slice ab1 q.bys.length cb1,.int .i64 q.size,.int .i64 q.slide,.int .i64 q.delay,.int .i64 q.late] 25) b2 (by simp))
 have K2 : Hid (BlkAt ((w.alloc (.cells #[.slice ao1 q.aggs.length cap1,.slice aw1 q.wh.length cw1,.slice ab1 q.bys.length cb1,.int .i64 q.size,.int .i64 q.slide,.int .i64 q.delay,.int .i64 q.late] 25)).alloc (.cells #[.slice ao2 q.aggs.length cap2,.slice aw2 q.wh.length cw2,.slice ab2 q.bys.length cb2,.int .i64 q.size,.int .i64 q.slide,.int .i64 q.delay,.int .i64 q.late] 25)) (w.heap.size + 1) [.slice ao2 q.aggs.length cap2,.slice aw2 q.wh.length cw2,.slice ab2 q.bys.length cb2,.int .i64 q.size,.int .i64 q.slide,.int .i64 q.delay,.int .i64 q.late]):=by
  have h9:=blk_alloc (w.alloc (.cells #[.slice ao1 q.aggs.length cap1,.slice aw1 q.wh.length cw1,.slice ab1 q.bys.length cb1,.int .i64 q.size,.int .i64 q.slide,.int .i64 q.delay,.int .i64 q.late] 25)) [.slice ao2 q.aggs.length cap2,.slice aw2 q.wh.length cw2,.slice ab2 q.bys.length cb2,.int .i64 q.size,.int .i64 q.slide,.int .i64 q.delay,.int .i64 q.late] 25
  rw [hz1] at h9
  exact h9
 have G1:=hidE (qyG_below h1 (b1.trans (b2.mono b1.size)))
 have G2:=hidE (qyG_below h2 (b1.trans (b2.mono b1.size)))
 have lw:=h1.lw
 have lb:=h1.lb
 have hb : ((q.aggs.length : Int) != (q.aggs.length : Int)) = false:=by simp
 clear h1 h2 b1 b2 hz1
 go_enter Tryz.func14,Tryz.ntmps14
 go_wp2_with fail
 generalize ((w.alloc (.cells #[.slice ao1 q.aggs.length cap1,.slice aw1 q.wh.length cw1,.slice ab1 q.bys.length cb1,.int .i64 q.size,.int .i64 q.slide,.int .i64 q.delay,.int .i64 q.late] 25)).alloc (.cells #[.slice ao2 q.aggs.length cap2,.slice aw2 q.wh.length cw2,.slice ab2 q.bys.length cb2,.int .i64 q.size,.int .i64 q.slide,.int .i64 q.delay,.int .i64 q.late] 25)) = w0 at *
 refine (nodes_sameQ w0 _ _ q.wh lw G1.out.wh G2.out.wh).mono ?_
 rintro e wa ⟨rfl,hb1⟩
 have Ba:=hidE (B0.out.trans (hb1.mono B0.out.size))
 have K1a:=hidE (blk_below K1.out hb1 K1.out.lt)
 have K2a:=hidE (blk_below K2.out hb1 K2.out.lt)
 have G1a:=hidE (qyG_below G1.out hb1)
 have G2a:=hidE (qyG_below G2.out hb1)
 have x2:=K1a.out.c 2 (by simp)
 have y2:=K2a.out.c 2 (by simp)
 simp only [List.getElem?_cons_zero,List.getElem?_cons_succ] at x2 y2
 clear hb1 K1 K2 G1 G2 B0
 go_wp2_with fail
 refine (nodes_sameQ wa _ _ q.bys lb G1a.out.by_ G2a.out.by_).mono ?_
 rintro e wb ⟨rfl,hb2⟩
 have Bb:=hidE (Ba.out.trans (hb2.mono Ba.out.size))
 have K1b:=hidE (blk_below K1a.out hb2 K1a.out.lt)
 have K2b:=hidE (blk_below K2a.out hb2 K2a.out.lt)
 have G1b:=hidE (qyG_below G1a.out hb2)
 have G2b:=hidE (qyG_below G2a.out hb2)
 clear hb2 K1a K2a G1a G2a Ba x2 y2
 have x0:=K1b.out.c 0 (by simp)
 have x1:=K1b.out.c 1 (by simp)
 have x2:=K1b.out.c 2 (by simp)
 have x3:=K1b.out.c 3 (by simp)
 have x4:=K1b.out.c 4 (by simp)
 have x5:=K1b.out.c 5 (by simp)
 have x6:=K1b.out.c 6 (by simp)
 simp only [List.getElem?_cons_zero,List.getElem?_cons_succ] at x0 x1 x2 x3 x4 x5 x6
 have y0:=K2b.out.c 0 (by simp)
 have y1:=K2b.out.c 1 (by simp)
 have y2:=K2b.out.c 2 (by simp)
 have y3:=K2b.out.c 3 (by simp)
 have y4:=K2b.out.c 4 (by simp)
 have y5:=K2b.out.c 5 (by simp)
 have y6:=K2b.out.c 6 (by simp)
 simp only [List.getElem?_cons_zero,List.getElem?_cons_succ] at y0 y1 y2 y3 y4 y5 y6
 have lx:=K1b.out.lt
 have ly:=K2b.out.lt
 have kn:=kin_some wb
 obtain ⟨kc,kf⟩:=kin_rules wb
 have HA1 : Hid (ps1.map Prod.fst = q.aggs):=G1b.out.qa
 have HA2 : Hid (ps2.map Prod.fst = q.aggs):=G2b.out.qa
 have HL1 : Hid (ps1.length = q.aggs.length):=l1
 have HL2 : Hid (ps2.length = q.aggs.length):=l2
 clear l1 l2
 go_wp2_with fail
 go_loopw [7] (fun i wr => ∃ k : Nat,k ≤ q.aggs.length ∧ i = .int .i64 k ∧ Hid (Below wb.heap.size wb wr)) (fun i _ => q.aggs.length - (intOf i).toNat)
 case atStart => exact ⟨0,Nat.zero_le _,rfl,Below.refl _ _⟩
 case round =>
  obtain ⟨k,hk,rfl,HB⟩:=hrel
  have xr0:=(HB.out.cell (p:=⟨w.heap.size,0,none⟩) lx).trans x0
  by_cases hlt : k < q.aggs.length
  ·have h1 : k < ps1.length:=by rw [HL1.out];exact hlt
   have h2 : k < ps2.length:=by rw [HL2.out];exact hlt
   have r1 : RowG wb (.slice ao1 ps1.length cap1) 2 ps1.length (rowOf cellsAg ps1):=by have:=G1b.out.ag.row;rw [HL1.out] at this ⊢;exact this
   have r2 : RowG wb (.slice ao2 ps2.length cap2) 2 ps2.length (rowOf cellsAg ps2):=by have:=G2b.out.ag.row;rw [HL2.out] at this ⊢;exact this
   obtain ⟨g1,o1,e1,hc1,-,q1,z1⟩:=rowOf_val cellsAg_len r1 k h1
   obtain ⟨g2,o2,e2,hc2,-,q2,z2⟩:=rowOf_val cellsAg_len r2 k h2
   subst e1 e2
   have n1:=G1b.out.ag.nds ps1[k] (List.getElem_mem h1)
   have n2:=G2b.out.ag.nds ps2[k] (List.getElem_mem h2)
   have ek : ps1[k].1 = ps2[k].1:=by
    have f1 : (ps1.map Prod.fst)[k]? = some ps1[k].1:=by simp [h1]
    have f2 : (ps2.map Prod.fst)[k]? = some ps2[k].1:=by simp [h2]
    rw [HA1.out] at f1
    rw [HA2.out] at f2
    rw [f1] at f2
    exact Option.some.inj f2
   generalize ps1[k] = p1 at *
   generalize ps2[k] = p2 at *
   obtain ⟨⟨k1,m1⟩,v1⟩:=p1
   obtain ⟨⟨k2,m2⟩,v2⟩:=p2
   simp only [AgQ.mk.injEq] at ek
   obtain ⟨rfl,rfl⟩:=ek
   have c10 : wb.cell? ⟨g1,o1 + k * 2,none⟩ = some (.int .i64 k1):=hc1 0 (by omega)
   have c11 : wb.cell? ⟨g1,o1 + k * 2 + 1,none⟩ = some v1:=hc1 1 (by omega)
   have c20 : wb.cell? ⟨g2,o2 + k * 2,none⟩ = some (.int .i64 k1):=hc2 0 (by omega)
   have c21 : wb.cell? ⟨g2,o2 + k * 2 + 1,none⟩ = some v2:=hc2 1 (by omega)
   have n11 : NodG wb v1 m1:=n1.1
   have n12 : m1.length ≤ 1000:=n1.2
   have n21 : NodG wb v2 m1:=n2.1
   clear n1 n2
   obtain ⟨a8,d8,rfl⟩:=rowG_shape n11
   obtain ⟨a9,d9,rfl⟩:=rowG_shape n21
   have NSK:=fun p : Kin wb => kin_of (p:=p) (nodes_sameQ p.w _ _ m1 n12 (rowG_below n11 p.h) (rowG_below n21 p.h))
   have NSH:=hidE NSK
   have hkk : (k1 != k1) = false:=by simp
   unfold maxLen at q1 q2
   have hi1 : (k : Int) < (q.aggs.length : Int):=by omega
   clear hc1 hc2 n11 n12 n21 r1 r2 h1 h2 NSK
   go_wp2_with fail
   refine wp_region_kin HB (by kernel_rfl) (by kernel_rfl) ?_
   repeat (go_big_quiet_step (exact NSH.out _))
   refine wpQuiet_nil ?_
   rintro _ ⟨p,rfl⟩
   go_wp2_with fail
   have HB2 : Hid (Below wb.heap.size wb p.w):=p.h
   refine wp_region_kin HB2 (by kernel_rfl) (by kernel_rfl) ?_
   repeat (go_big_quiet_step (fail))
   refine wpQuiet_nil ?_
   rintro _ ⟨p9,rfl⟩
   go_wp2_with fail
   go_roundw
   case rel => exact ⟨k + 1,by omega,by go_num,p9.h⟩
   case measure => simp [intOf];omega
  ·have hkn : ¬ ((k : Int) < (q.aggs.length : Int)):=by omega
   have K1r:=hidE (blk_below K1b.out HB.out lx)
   have K2r:=hidE (blk_below K2b.out HB.out ly)
   clear x0 x1 x2 x3 x4 x5 x6 y0 y1 y2 y3 y4 y5 y6 kc kf kn
   have x0:=K1r.out.c 0 (by simp)
   have x1:=K1r.out.c 1 (by simp)
   have x2:=K1r.out.c 2 (by simp)
   have x3:=K1r.out.c 3 (by simp)
   have x4:=K1r.out.c 4 (by simp)
   have x5:=K1r.out.c 5 (by simp)
   have x6:=K1r.out.c 6 (by simp)
   simp only [List.getElem?_cons_zero,List.getElem?_cons_succ] at x0 x1 x2 x3 x4 x5 x6
   have y0:=K2r.out.c 0 (by simp)
   have y1:=K2r.out.c 1 (by simp)
   have y2:=K2r.out.c 2 (by simp)
   have y3:=K2r.out.c 3 (by simp)
   have y4:=K2r.out.c 4 (by simp)
   have y5:=K2r.out.c 5 (by simp)
   have y6:=K2r.out.c 6 (by simp)
   simp only [List.getElem?_cons_zero,List.getElem?_cons_succ] at y0 y1 y2 y3 y4 y5 y6
   go_wp2_with fail
   go_ret
   exact ⟨rfl,Bb.out.trans (HB.out.mono Bb.out.size)⟩
end Go.Proofs.YteaanpdckkmjoaaGreatDoor
namespace Go.Proofs.YteaanpdckkmjoaaGreatDoor
open Go.ChangeShapes Go.WideShapes Go.ChangeAt Go.RowKit
theorem same_errC (c f : Int) (w : World) (hc : 0 ≤ c) : Calls Tryz.prog 8 #[errC c,.int .i64 f] w fun e w' => e = .returned (.bool (c == f)) ∧ w' = w:=by
 unfold errC
 by_cases h : c = 0
 ·subst h
  rw [if_pos rfl]
  have e : ((0 : Int) == f) = (f == 0):=by rw [Bool.eq_iff_iff];simp only [beq_iff_eq];omega
  rw [e]
  exact same_nil f w
 ·rw [if_neg h]
  exact same_err c f w (by omega)
structure QyW (w : World) (va vw vb : Value) (q : Qy) (ps : List (AgQ × Value)) : Prop where
 row : RowG w va 2 ps.length (rowOf cellsAg ps)
 nds : ∀ p ∈ ps,NodG w p.2 p.1.of
 qa : ps.map Prod.fst = q.aggs
 wh : NodG w vw q.wh
 by_ : NodG w vb q.bys
theorem qyW_below {w w' : World} {va vw vb : Value} {q : Qy} {ps : List (AgQ × Value)} (h : QyW w va vw vb q ps) (hb : Below w.heap.size w w') : QyW w' va vw vb q ps:=⟨rowG_below h.row hb,fun p hp => nodG_below (h.nds p hp) hb,h.qa,nodG_below h.wh hb,nodG_below h.by_ hb⟩
def LightP (q : Qy) (ps : List (AgQ × Value)) : Prop:=ps.length ≤ 6 ∧ q.wh.length ≤ 50 ∧ q.bys.length ≤ 50 ∧ ∀ p ∈ ps,p.1.of.length ≤ 50
def LightR (q : Qy) (ps : List (AgQ × Value)) (e : Ending) : Prop:=∃ b : Bool,e = .returned (.bool b) ∧ (b = true → LightP q ps)
theorem qyG_light {w : World} {va vw vb : Value} {q : Qy} {ps : List (AgQ × Value)} (h : QyW w va vw vb q ps) (hl : LightP q ps) : QyG w va vw vb q ps :=
 ⟨⟨h.row,fun p hp => ⟨h.nds p hp,by have:=hl.2.2.2 p hp;omega⟩⟩,h.qa,h.wh,h.by_,by have:=hl.2.1;omega,by have:=hl.2.2.1;omega⟩
theorem lightM_any (a : Option Addr) (n c : Nat) (w : World) : Calls Tryz.prog 17 #[.slice a n c] w fun e w' => e = .returned (.bool (decide ((n : Int) ≤ 50))) ∧ Below w.heap.size w w':=by
 go_enter Tryz.func17,Tryz.ntmps17
 go_wp2_with fail
 go_ret
 exact ⟨rfl,Below.refl _ _⟩
theorem lightM_t (a : Option Addr) (n c : Nat) (h : n ≤ 50) (w : World) : Calls Tryz.prog 17 #[.slice a n c] w fun e w' => e = .returned (.bool true) ∧ Below w.heap.size w w':=by
 have e : decide ((n : Int) ≤ 50) = true:=decide_eq_true (by omega)
 have h9:=lightM_any a n c w
 rw [e] at h9
 exact h9
theorem lightM_f (a : Option Addr) (n c : Nat) (h : ¬ n ≤ 50) (w : World) : Calls Tryz.prog 17 #[.slice a n c] w fun e w' => e = .returned (.bool false) ∧ Below w.heap.size w w':=by
 have e : decide ((n : Int) ≤ 50) = false:=decide_eq_false (by omega)
 have h9:=lightM_any a n c w
 rw [e] at h9
 exact h9
theorem lightQ_any (va vw vb : Value) (q : Qy) (ps : List (AgQ × Value)) (W : World) (h : QyW W va vw vb q ps) :
  Calls Tryz.prog 6 #[qyV va vw vb q] W fun e w' => LightR q ps e ∧ Below W.heap.size W w':=by
 unfold qyV
 obtain ⟨ao,cap,rfl⟩:=rowG_shape h.row
 obtain ⟨a2,c2,rfl⟩:=rowG_shape h.wh
 obtain ⟨a3,c3,rfl⟩:=rowG_shape h.by_
 have ba:=below_alloc W (.cells #[.slice ao ps.length cap,.slice a2 q.wh.length c2,.slice a3 q.bys.length c3,.int .i64 q.size,.int .i64 q.slide,.int .i64 q.delay,.int .i64 q.late] 25)
 have BA:=hidE ba
 have BQ:=hidE (blk_alloc W [.slice ao ps.length cap,.slice a2 q.wh.length c2,.slice a3 q.bys.length c3,.int .i64 q.size,.int .i64 q.slide,.int .i64 q.delay,.int .i64 q.late] 25)
 have H:=hidE (qyW_below h ba)
 have lgz : W.heap.size < (W.alloc (.cells #[.slice ao ps.length cap,.slice a2 q.wh.length c2,.slice a3 q.bys.length c3,.int .i64 q.size,.int .i64 q.slide,.int .i64 q.delay,.int .i64 q.late] 25)).heap.size:=by simp
 clear h ba
 have z0:=BQ.out.c 0 (by simp)
 have z1:=BQ.out.c 1 (by simp)
 have z2:=BQ.out.c 2 (by simp)
 have z3:=BQ.out.c 3 (by simp)
 have z4:=BQ.out.c 4 (by simp)
 have z5:=BQ.out.c 5 (by simp)
 have z6:=BQ.out.c 6 (by simp)
 simp only [List.getElem?_cons_zero,List.getElem?_cons_succ] at z0 z1 z2 z3 z4 z5 z6
 have z0o:=hidE z0
 by_cases h6 : 6 < ps.length
 ·have q1 : decide ((6 : Int) < (ps.length : Int)) = true:=decide_eq_true (by omega)
  go_enter Tryz.func6,Tryz.ntmps6
  go_wp2_with fail
  go_ret
  exact ⟨⟨false,rfl,fun e => by cases e⟩,BA.out⟩
 have q1 : decide ((6 : Int) < (ps.length : Int)) = false:=decide_eq_false (by omega)
 by_cases hw : q.wh.length ≤ 50
 ·by_cases hb : q.bys.length ≤ 50
  ·have L1:=hidE (lightM_t a2 q.wh.length c2 hw)
   have L2:=hidE (lightM_t a3 q.bys.length c3 hb)
   have L3:=hidE lightM_t
   have L4:=hidE lightM_f
   have HW:=hidE hw
   have HB:=hidE hb
   have H6:=hidT h6
   go_enter Tryz.func6,Tryz.ntmps6
   go_wp2_with fail
   generalize (W.alloc (.cells #[.slice ao ps.length cap,.slice a2 q.wh.length c2,.slice a3 q.bys.length c3,.int .i64 q.size,.int .i64 q.slide,.int .i64 q.delay,.int .i64 q.late] 25)) = w0 at *
   refine (L1.out _).mono ?_
   rintro e w1 ⟨rfl,hb1⟩
   have z2:=(hb1.cell (p:=⟨W.heap.size,2,none⟩) lgz).trans z2
   have HB1:=hidE hb1
   clear hb1 L1
   go_wp2_with fail
   refine (L2.out _).mono ?_
   rintro e w2 ⟨rfl,hb2⟩
   have B2:=HB1.out.trans (hb2.mono HB1.out.size)
   have BZ:=blk_below BQ.out B2 lgz
   have HB2:=hidE B2
   clear hb2 L2 HB1 z2 z0 z1
   have hl2:=BZ.lt
   have y0:=BZ.c 0 (by simp)
   simp only [List.getElem?_cons_zero,List.getElem?_cons_succ] at y0
   clear BZ B2
   go_wp2_with fail
   go_loopw [3] (fun i wr => ∃ j : Nat,j ≤ ps.length ∧ i = .int .i64 j ∧ Hid (Below w0.heap.size w0 wr) ∧ Hid (∀ m p,m < j → ps[m]? = some p → p.1.of.length ≤ 50)) (fun i _ => 9 - (intOf i).toNat)
   case atStart => exact ⟨0,Nat.zero_le _,rfl,HB2,fun m p hm => absurd hm (by omega)⟩
   case round =>
    obtain ⟨j,hj,rfl,HBr,HA⟩:=hrel
    have x0:=(HBr.out.cell (p:=⟨W.heap.size,0,none⟩) lgz).trans z0o.out
    by_cases hlt : j < ps.length
    ·have HR:=qyW_below H.out HBr.out
     obtain ⟨g,off,hao,hcell,l1,l2,lg⟩:=rowOf_val cellsAg_len HR.row j hlt
     subst hao
     have hps : ps[j]? = some ps[j]:=by simp [hlt]
     have hnd:=HR.nds ps[j] (List.getElem_mem hlt)
     have HPS:=hidE hps
     generalize ps[j] = p at *
     obtain ⟨⟨k,l⟩,v⟩:=p
     have y1 : wr.cell? ⟨g,off + j * 2 + 1,none⟩ = some v:=hcell 1 (by omega)
     obtain ⟨ax,cx,hvx⟩:=rowG_shape hnd
     have hvx : v = .slice ax l.length cx:=hvx
     subst hvx
     unfold maxLen at l2
     clear hcell hnd HR hps
     by_cases h50 : l.length ≤ 50
     ·have LT:=hidE (L3.out ax l.length cx h50 wr)
      have HA2 : Hid (∀ m p,m < j + 1 → ps[m]? = some p → p.1.of.length ≤ 50):=fun m p hm hp => by
       by_cases e9 : m < j
       ·exact HA.out m p e9 hp
       ·have : m = j:=by omega
        subst this
        rw [HPS.out] at hp
        cases hp
        exact h50
      have H50:=hidE h50
      clear h50
      go_wp2_with fail
      refine LT.out.mono ?_
      rintro e w3 ⟨rfl,hb3⟩
      have HB3:=hidE (HBr.out.trans (hb3.mono HBr.out.size))
      clear hb3 LT
      go_wp2_with fail
      go_roundw
      case rel => exact ⟨j + 1,by omega,rfl,HB3,HA2⟩
      case measure => simp [intOf];omega
     ·have LT:=hidE (L4.out ax l.length cx h50 wr)
      clear h50
      go_wp2_with fail
      refine LT.out.mono ?_
      rintro e w3 ⟨rfl,hb3⟩
      have HB3:=hidE (HBr.out.trans (hb3.mono HBr.out.size))
      clear hb3 LT
      go_wp2_with fail
      go_ret
      exact ⟨⟨false,rfl,fun e => by cases e⟩,BA.out.trans (HB3.out.mono BA.out.size)⟩
    ·have hge : ¬ ((j : Int) < (ps.length : Int)):=by omega
     go_wp2_with fail
     go_ret
     refine ⟨⟨true,rfl,fun _ => ⟨by have:=H6.out;omega,HW.out,HB.out,fun p hp => ?_⟩⟩,BA.out.trans (HBr.out.mono BA.out.size)⟩
     obtain ⟨m,hm⟩:=List.getElem?_of_mem hp
     have:=(List.getElem?_eq_some_iff.1 hm).1
     exact HA.out m p (by omega) hm
  ·have L1:=hidE (lightM_t a2 q.wh.length c2 hw)
   have L2:=hidE (lightM_f a3 q.bys.length c3 hb)
   clear hw hb
   go_enter Tryz.func6,Tryz.ntmps6
   go_wp2_with fail
   generalize (W.alloc (.cells #[.slice ao ps.length cap,.slice a2 q.wh.length c2,.slice a3 q.bys.length c3,.int .i64 q.size,.int .i64 q.slide,.int .i64 q.delay,.int .i64 q.late] 25)) = w0 at *
   refine (L1.out _).mono ?_
   rintro e w1 ⟨rfl,hb1⟩
   have z2:=(hb1.cell (p:=⟨W.heap.size,2,none⟩) lgz).trans z2
   have HB1:=hidE hb1
   clear hb1 L1
   go_wp2_with fail
   refine (L2.out _).mono ?_
   rintro e w2 ⟨rfl,hb2⟩
   have HB2:=hidE (HB1.out.trans (hb2.mono HB1.out.size))
   clear hb2 L2
   go_wp2_with fail
   go_ret
   exact ⟨⟨false,rfl,fun e => by cases e⟩,BA.out.trans (HB2.out.mono BA.out.size)⟩
 ·have L1:=hidE (lightM_f a2 q.wh.length c2 hw)
  clear hw
  go_enter Tryz.func6,Tryz.ntmps6
  go_wp2_with fail
  generalize (W.alloc (.cells #[.slice ao ps.length cap,.slice a2 q.wh.length c2,.slice a3 q.bys.length c3,.int .i64 q.size,.int .i64 q.slide,.int .i64 q.delay,.int .i64 q.late] 25)) = w0 at *
  refine (L1.out _).mono ?_
  rintro e w1 ⟨rfl,hb1⟩
  have HB1:=hidE hb1
  clear hb1 L1
  go_wp2_with fail
  go_ret
  exact ⟨⟨false,rfl,fun e => by cases e⟩,BA.out.trans (HB1.out.mono BA.out.size)⟩
def fixT : ByteArray:=⟨#[115,101,108,101,99,116,32,99,111,117,110,116,40,42,41,44,32,115,117,109,40,97,41,32,102,114,111,109,32,101,118,101,110,116,115,32,119,104,101,114,101,32,97,32,62,32,51,32,119,105,110,100,111,119,32,49,48,32,115,108,105,100,101,32,53]⟩
def okFix : Except Int Qy → Bool
 | .error _ => false
 | .ok q => q.aggs.length == 2 && q.size == 10 && q.slide == 5 && q.wh.length == 3 && q.bys.length == 0
theorem fix_ok : okFix (parseQ fixT) = true:=by kernel_rfl
theorem queries_any (w : World) (ht : TabQ w) : Calls Tryz.prog 5 #[] w fun e w' => e = .returned (.bool true) ∧ Below w.heap.size w w':=by
 have PA:=parse_any fixT w ht
 unfold ParseR at PA
 have hf:=fix_ok
 cases hp : parseQ fixT with
 | error c => rw [hp] at hf;cases hf
 | ok q =>
  rw [hp] at hf PA
  simp only [okFix,Bool.and_eq_true,beq_iff_eq] at hf
  obtain ⟨⟨⟨⟨f1,f2⟩,f3⟩,f4⟩,f5⟩:=hf
  unfold fixT at PA
  have PAH:=hidE PA
  have F:=hidE (And.intro f1 (And.intro f2 (And.intro f3 (And.intro f4 f5))))
  clear PA hp f1 f2 f3 f4 f5 ht
  have SM:=fun w => same_nil 0 w
  go_enter Tryz.func5,Tryz.ntmps5
  go_wp2_with fail
  refine PAH.out.mono ?_
  rintro r w1 ⟨hb,va,vw,vb,ps,rfl,hqo⟩
  have hqg:=qyO_G hqo
  have hlen : ps.length = 2:=by have h9:=F.out.1;rw [← hqo.qa] at h9;simpa using h9
  obtain ⟨ao,cap,e1⟩:=rowG_shape hqg.ag.row
  obtain ⟨a2,c2,e2⟩:=rowG_shape hqg.wh
  obtain ⟨a3,c3,e3⟩:=rowG_shape hqg.by_
  rw [hlen] at e1
  rw [F.out.2.2.2.1] at e2
  rw [F.out.2.2.2.2] at e3
  subst e1 e2 e3
  have g1:=F.out.2.1
  have g2:=F.out.2.2.1
  unfold qyV
  rw [g1,g2]
  have bv:=below_alloc w1 (.cells #[.slice ao 2 cap,.slice a2 3 c2,.slice a3 0 c3,.int .i64 10,.int .i64 5,.int .i64 q.delay,.int .i64 q.late] 25)
  have BV:=blk_alloc w1 [.slice ao 2 cap,.slice a2 3 c2,.slice a3 0 c3,.int .i64 10,.int .i64 5,.int .i64 q.delay,.int .i64 q.late] 25
  have B1:=hidE (hb.trans (bv.mono hb.size))
  have z0:=BV.c 0 (by simp)
  have z1:=BV.c 1 (by simp)
  have z2:=BV.c 2 (by simp)
  have z3:=BV.c 3 (by simp)
  have z4:=BV.c 4 (by simp)
  have z5:=BV.c 5 (by simp)
  have z6:=BV.c 6 (by simp)
  simp only [List.getElem?_cons_zero,List.getElem?_cons_succ] at z0 z1 z2 z3 z4 z5 z6
  clear hb hqo hqg hlen PAH F bv BV g1 g2
  go_wp2_with (go_at_call 8;refine (SM _).mono ?_;rintro e w' ⟨rfl,rfl⟩)
  go_ret
  exact ⟨rfl,B1.out⟩
end Go.Proofs.YteaanpdckkmjoaaGreatDoor

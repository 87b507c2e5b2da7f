/- Several texts in one, each with its own head. What is proved: what the parts say. Conditions: theirs. -/
import Derived.Test.YtcgjflamgnjhcaaGreatDoorPrsN
import Derived.Test.YtcgjflamgnjhcaaGreatDoorPrs1J
import Derived.Test.YtcgjflamgnjhcaaGreatDoorKinJ
import Derived.Test.YtcgjflamgnjhcaaGreatDoorEnJJ
import Derived.Test.YtcgjflamgnjhcaaGreatDoorEnAJ
import Derived.Test.YtcgjflamgnjhcaaGreatDoorEnFpJ
set_option linter.unusedVariables false
set_option linter.unusedSimpArgs false
set_option maxRecDepth 100000
set_option maxHeartbeats 8000000
namespace Go.Proofs.YtcgjflamgnjhcaaGreatDoor
open Go.ChangeShapes Go.WideShapes Go.ChangeAt Go.RowKit
def AskR (s : ByteArray) (w : World) (r : Ending) (w' : World) : Prop:=Below w.heap.size w w' ∧ (r = .returned (.tuple #[qzV,.bool false]) ∨ ∃ q va vw vb ps,parseQ s = .ok q ∧ r = .returned (.tuple #[qyV va vw vb q,.bool true]) ∧ QyO w' w.heap.size va vw vb q ps)
theorem asked_long (s : ByteArray) (w : World) (hs : 400 < s.size) : Calls Tryz.prog 25 #[.string s] w fun r w' => AskR s w r w':=by
 have ba:=below_alloc w (.cells #[.slice none 0 0,.slice none 0 0,.slice none 0 0,.int .i64 0,.int .i64 0,.int .i64 0,.int .i64 0] 28)
 have BA:=hidE ba
 have BR:=hidE (blk_alloc w [.slice none 0 0,.slice none 0 0,.slice none 0 0,.int .i64 0,.int .i64 0,.int .i64 0,.int .i64 0] 28)
 have TR:=hidE (tyAt_new w #[.slice none 0 0,.slice none 0 0,.slice none 0 0,.int .i64 0,.int .i64 0,.int .i64 0,.int .i64 0] 28)
 have h4 : (400 : Int) < (s.size : Int):=by omega
 generalize hw0 : (w.alloc (.cells #[.slice none 0 0,.slice none 0 0,.slice none 0 0,.int .i64 0,.int .i64 0,.int .i64 0,.int .i64 0] 28)) = w0 at *
 have f0:=BR.out.fz 0
 have y0:=BR.out.c 0 (by simp)
 have f1:=BR.out.fz 1
 have y1:=BR.out.c 1 (by simp)
 have f2:=BR.out.fz 2
 have y2:=BR.out.c 2 (by simp)
 have f3:=BR.out.fz 3
 have y3:=BR.out.c 3 (by simp)
 have f4:=BR.out.fz 4
 have y4:=BR.out.c 4 (by simp)
 have f5:=BR.out.fz 5
 have y5:=BR.out.c 5 (by simp)
 have f6:=BR.out.fz 6
 have y6:=BR.out.c 6 (by simp)
 simp only [List.getElem?_cons_zero,List.getElem?_cons_succ] at y0 y1 y2 y3 y4 y5 y6
 have Z:=hidE (show BlkAt (((((((w0.setCell ⟨w.heap.size,0,none⟩ (.slice none 0 0)).setCell ⟨w.heap.size,1,none⟩ (.slice none 0 0)).setCell ⟨w.heap.size,2,none⟩ (.slice none 0 0)).setCell ⟨w.heap.size,3,none⟩ (.int .i64 0)).setCell ⟨w.heap.size,4,none⟩ (.int .i64 0)).setCell ⟨w.heap.size,5,none⟩ (.int .i64 0)).setCell ⟨w.heap.size,6,none⟩ (.int .i64 0)) w.heap.size [.slice none 0 0,.slice none 0 0,.slice none 0 0,.int .i64 0,.int .i64 0,.int .i64 0,.int .i64 0] by simpa using (blk_set (blk_set (blk_set (blk_set (blk_set (blk_set (blk_set BR.out 0 (.slice none 0 0) (by simp)) 1 (.slice none 0 0) (by simp)) 2 (.slice none 0 0) (by simp)) 3 (.int .i64 0) (by simp)) 4 (.int .i64 0) (by simp)) 5 (.int .i64 0) (by simp)) 6 (.int .i64 0) (by simp)))
 have KG : Hid (KeptB w0 (((((((w0.setCell ⟨w.heap.size,0,none⟩ (.slice none 0 0)).setCell ⟨w.heap.size,1,none⟩ (.slice none 0 0)).setCell ⟨w.heap.size,2,none⟩ (.slice none 0 0)).setCell ⟨w.heap.size,3,none⟩ (.int .i64 0)).setCell ⟨w.heap.size,4,none⟩ (.int .i64 0)).setCell ⟨w.heap.size,5,none⟩ (.int .i64 0)).setCell ⟨w.heap.size,6,none⟩ (.int .i64 0)) (fun q => q = w.heap.size)):=(keptB_set (keptB_set (keptB_set (keptB_set (keptB_set (keptB_set (keptB_set (keptB_of_below (bad:=fun q => q = w.heap.size) (Below.refl w0.heap.size w0)) rfl 0 _) rfl 1 _) rfl 2 _) rfl 3 _) rfl 4 _) rfl 5 _) rfl 6 _)
 clear ba BR hs
 go_enter Tryz.func25,Tryz.ntmps25
 go_wp2_with fail
 generalize (((((((w0.setCell ⟨w.heap.size,0,none⟩ (.slice none 0 0)).setCell ⟨w.heap.size,1,none⟩ (.slice none 0 0)).setCell ⟨w.heap.size,2,none⟩ (.slice none 0 0)).setCell ⟨w.heap.size,3,none⟩ (.int .i64 0)).setCell ⟨w.heap.size,4,none⟩ (.int .i64 0)).setCell ⟨w.heap.size,5,none⟩ (.int .i64 0)).setCell ⟨w.heap.size,6,none⟩ (.int .i64 0)) = wz at *
 have z0:=Z.out.c 0 (by simp)
 have z1:=Z.out.c 1 (by simp)
 have z2:=Z.out.c 2 (by simp)
 have z3:=Z.out.c 3 (by simp)
 have z4:=Z.out.c 4 (by simp)
 have z5:=Z.out.c 5 (by simp)
 have z6:=Z.out.c 6 (by simp)
 simp only [List.getElem?_cons_zero,List.getElem?_cons_succ] at z0 z1 z2 z3 z4 z5 z6
 refine bodyPost_ret (v:=.tuple #[.agg #[.slice none 0 0,.slice none 0 0,.slice none 0 0,.int .i64 0,.int .i64 0,.int .i64 0,.int .i64 0],.bool false]) (by simp [results,Tryz.results25,go_sem,z0,z1,z2,z3,z4,z5,z6]) rfl ?_
 exact ⟨keptB_below (kept_own (gp:=w.heap.size) (keptB_of_below BA.out) KG.out (Nat.le_refl _)) (Nat.le_refl _) (fun k e => by omega),.inl rfl⟩
theorem asked_bad (s : ByteArray) (w : World) (ht : TabQ w) (hs : s.size ≤ 400) (c : Int) (hp : parseQ s = .error c) : Calls Tryz.prog 25 #[.string s] w fun r w' => AskR s w r w':=by
 have ba:=below_alloc w (.cells #[.slice none 0 0,.slice none 0 0,.slice none 0 0,.int .i64 0,.int .i64 0,.int .i64 0,.int .i64 0] 28)
 have BA:=hidE ba
 have BR:=hidE (blk_alloc w [.slice none 0 0,.slice none 0 0,.slice none 0 0,.int .i64 0,.int .i64 0,.int .i64 0,.int .i64 0] 28)
 have TR:=hidE (tyAt_new w #[.slice none 0 0,.slice none 0 0,.slice none 0 0,.int .i64 0,.int .i64 0,.int .i64 0,.int .i64 0] 28)
 have h4 : ¬ (400 : Int) < (s.size : Int):=by omega
 have PA:=parse_any s _ (ht.below ba)
 unfold ParseR at PA
 rw [hp] at PA
 simp only at PA
 have PAH:=hidE PA
 have e9 : (w.alloc (.cells #[.slice none 0 0,.slice none 0 0,.slice none 0 0,.int .i64 0,.int .i64 0,.int .i64 0,.int .i64 0] 28)).heap.size = w.heap.size + 1:=by simp
 have HE9:=hidE e9
 clear PA ba ht hs e9
 go_enter Tryz.func25,Tryz.ntmps25
 go_wp2_with fail
 generalize (w.alloc (.cells #[.slice none 0 0,.slice none 0 0,.slice none 0 0,.int .i64 0,.int .i64 0,.int .i64 0,.int .i64 0] 28)) = w0 at *
 refine PAH.out.mono ?_
 rintro r w1 ⟨hb,rfl,hc⟩
 unfold qzV
 rw [errC_ne hc]
 clear hc
 have B1:=hidE (BA.out.trans (hb.mono BA.out.size))
 have BR1:=hidE (blk_below BR.out hb BR.out.lt)
 have TR1:=hidE (tyAt_kept TR.out (keptB_of_below (bad:=fun _ => False) hb) id)
 have lr1:=BR1.out.lt
 have bv:=below_alloc w1 (.cells #[.slice none 0 0,.slice none 0 0,.slice none 0 0,.int .i64 0,.int .i64 0,.int .i64 0,.int .i64 0] 28)
 have BV:=hidE (blk_alloc w1 [.slice none 0 0,.slice none 0 0,.slice none 0 0,.int .i64 0,.int .i64 0,.int .i64 0,.int .i64 0] 28)
 have B2:=hidE (B1.out.trans (bv.mono B1.out.size))
 have BR2:=hidE (blk_below BR1.out bv lr1)
 have TR2:=hidE (tyAt_kept TR1.out (keptB_of_below (bad:=fun _ => False) bv) id)
 clear hb bv PAH BR TR BR1 TR1 B1 BA
 go_wp2_with fail
 generalize hgv : w1.heap.size = gv at *
 generalize w1.alloc (.cells #[.slice none 0 0,.slice none 0 0,.slice none 0 0,.int .i64 0,.int .i64 0,.int .i64 0,.int .i64 0] 28) = w2 at *
 have d0:=BV.out.c 0 (by simp)
 have d1:=BV.out.c 1 (by simp)
 have d2:=BV.out.c 2 (by simp)
 have d3:=BV.out.c 3 (by simp)
 have d4:=BV.out.c 4 (by simp)
 have d5:=BV.out.c 5 (by simp)
 have d6:=BV.out.c 6 (by simp)
 simp only [List.getElem?_cons_zero,List.getElem?_cons_succ] at d0 d1 d2 d3 d4 d5 d6
 have lv:=BV.out.lt
 have nv : ¬ gv = w.heap.size:=by omega
 have dd : Below w2.heap.size w2 ({ w2 with drawn:=w2.drawn + 1 } : World):=(Below.refl _ _).drew
 have hS : KeptB w2 ({ w2 with drawn:=w2.drawn + 1 } : World) (fun q => q = w.heap.size):=keptB_of_below dd
 have BR3:=hidE (blk_below BR2.out dd BR2.out.lt)
 have TR3:=hidE (tyAt_kept TR2.out (keptB_of_below (bad:=fun _ => False) dd) id)
 have B3:=hidE (B2.out.trans (dd.mono B2.out.size))
 have DD:=hidE dd
 clear dd BR2 TR2 B2 BV
 refine wp_region_held (S:=fun w' => KeptB w2 w' (fun q => q = w.heap.size)) (by kernel_rfl) ?_
 generalize ({ w2 with drawn:=w2.drawn + 1 } : World) = wd at *
 have f0:=BR3.out.fz 0
 have y0:=BR3.out.c 0 (by simp)
 have f1:=BR3.out.fz 1
 have y1:=BR3.out.c 1 (by simp)
 have f2:=BR3.out.fz 2
 have y2:=BR3.out.c 2 (by simp)
 have f3:=BR3.out.fz 3
 have y3:=BR3.out.c 3 (by simp)
 have f4:=BR3.out.fz 4
 have y4:=BR3.out.c 4 (by simp)
 have f5:=BR3.out.fz 5
 have y5:=BR3.out.c 5 (by simp)
 have f6:=BR3.out.fz 6
 have y6:=BR3.out.c 6 (by simp)
 simp only [List.getElem?_cons_zero,List.getElem?_cons_succ] at y0 y1 y2 y3 y4 y5 y6
 have Z:=hidE (show BlkAt (((((((wd.setCell ⟨w.heap.size,0,none⟩ (.slice none 0 0)).setCell ⟨w.heap.size,1,none⟩ (.slice none 0 0)).setCell ⟨w.heap.size,2,none⟩ (.slice none 0 0)).setCell ⟨w.heap.size,3,none⟩ (.int .i64 0)).setCell ⟨w.heap.size,4,none⟩ (.int .i64 0)).setCell ⟨w.heap.size,5,none⟩ (.int .i64 0)).setCell ⟨w.heap.size,6,none⟩ (.int .i64 0)) w.heap.size [.slice none 0 0,.slice none 0 0,.slice none 0 0,.int .i64 0,.int .i64 0,.int .i64 0,.int .i64 0] by simpa using (blk_set (blk_set (blk_set (blk_set (blk_set (blk_set (blk_set BR3.out 0 (.slice none 0 0) (by simp)) 1 (.slice none 0 0) (by simp)) 2 (.slice none 0 0) (by simp)) 3 (.int .i64 0) (by simp)) 4 (.int .i64 0) (by simp)) 5 (.int .i64 0) (by simp)) 6 (.int .i64 0) (by simp)))
 have KG : Hid (KeptB wd (((((((wd.setCell ⟨w.heap.size,0,none⟩ (.slice none 0 0)).setCell ⟨w.heap.size,1,none⟩ (.slice none 0 0)).setCell ⟨w.heap.size,2,none⟩ (.slice none 0 0)).setCell ⟨w.heap.size,3,none⟩ (.int .i64 0)).setCell ⟨w.heap.size,4,none⟩ (.int .i64 0)).setCell ⟨w.heap.size,5,none⟩ (.int .i64 0)).setCell ⟨w.heap.size,6,none⟩ (.int .i64 0)) (fun q => q = w.heap.size)):=(keptB_set (keptB_set (keptB_set (keptB_set (keptB_set (keptB_set (keptB_set (keptB_of_below (bad:=fun q => q = w.heap.size) (Below.refl wd.heap.size wd)) rfl 0 _) rfl 1 _) rfl 2 _) rfl 3 _) rfl 4 _) rfl 5 _) rfl 6 _)
 refine held_take (i:=0) (v:=.agg #[.slice none 0 0,.slice none 0 0,.slice none 0 0,.int .i64 0,.int .i64 0,.int .i64 0,.int .i64 0]) (L:=#[true,false,false,false,false]) rfl (by kernel_rfl) (by kernel_rfl) (by kernel_rfl) (fun c a w h => h) (Or.inl ⟨by kernel_rfl,fun wq hq => by have q0:=(kept_cell hq 0 lv nv).trans d0;have q1:=(kept_cell hq 1 lv nv).trans d1;have q2:=(kept_cell hq 2 lv nv).trans d2;have q3:=(kept_cell hq 3 lv nv).trans d3;have q4:=(kept_cell hq 4 lv nv).trans d4;have q5:=(kept_cell hq 5 lv nv).trans d5;have q6:=(kept_cell hq 6 lv nv).trans d6;go_simp⟩) hS (by kernel_rfl) ?_
 refine held_take (i:=1) (v:=.iface 93 (.int .i64 c)) (L:=#[true,true,false,false,false]) rfl (by kernel_rfl) (by kernel_rfl) (by kernel_rfl) (fun c a w h => h) (Or.inl ⟨by kernel_rfl,fun wq hq => by go_simp⟩) hS (by kernel_rfl) ?_
 refine held_take (i:=2) (v:=.bool false) (L:=#[true,true,true,false,false]) rfl (by kernel_rfl) (by kernel_rfl) (by kernel_rfl) (fun c a w h => h) (Or.inl ⟨by kernel_rfl,fun wq hq => by go_simp⟩) hS (by kernel_rfl) ?_
 refine held_go (i:=3) (L:=#[true,true,true,true,false]) (by kernel_rfl) rfl (by kernel_rfl) (by kernel_rfl) ?_
 intro K' hK
 go_simp
 refine hK _ _ ⟨keptB_trans hS KG.out,?_⟩
 clear hK
 refine held_go (i:=4) (L:=#[true,true,true,true,true]) (by kernel_rfl) rfl (by kernel_rfl) (by kernel_rfl) ?_
 intro K' hK
 go_simp
 refine hK _ _ ⟨keptB_trans hS KG.out,?_⟩
 clear hK
 refine wpAnyH_done (by kernel_rfl) ?_ _
 clear hS d0 y0 f0 d1 y1 f1 d2 y2 f2 d3 y3 f3 d4 y4 f4 d5 y5 f5 d6 y6 f6
 generalize (((((((wd.setCell ⟨w.heap.size,0,none⟩ (.slice none 0 0)).setCell ⟨w.heap.size,1,none⟩ (.slice none 0 0)).setCell ⟨w.heap.size,2,none⟩ (.slice none 0 0)).setCell ⟨w.heap.size,3,none⟩ (.int .i64 0)).setCell ⟨w.heap.size,4,none⟩ (.int .i64 0)).setCell ⟨w.heap.size,5,none⟩ (.int .i64 0)).setCell ⟨w.heap.size,6,none⟩ (.int .i64 0)) = wz at *
 go_wp2_with fail
 have z0:=Z.out.c 0 (by simp)
 have z1:=Z.out.c 1 (by simp)
 have z2:=Z.out.c 2 (by simp)
 have z3:=Z.out.c 3 (by simp)
 have z4:=Z.out.c 4 (by simp)
 have z5:=Z.out.c 5 (by simp)
 have z6:=Z.out.c 6 (by simp)
 simp only [List.getElem?_cons_zero,List.getElem?_cons_succ] at z0 z1 z2 z3 z4 z5 z6
 refine bodyPost_ret (v:=.tuple #[.agg #[.slice none 0 0,.slice none 0 0,.slice none 0 0,.int .i64 0,.int .i64 0,.int .i64 0,.int .i64 0],.bool false]) (by simp [results,Tryz.results25,go_sem,z0,z1,z2,z3,z4,z5,z6]) rfl ?_
 refine ⟨keptB_below (kept_own (gp:=w.heap.size) (keptB_of_below B3.out) KG.out (Nat.le_refl _)) (Nat.le_refl _) (fun k e => by omega),?_⟩
 exact .inl rfl
theorem asked_ok (s : ByteArray) (w : World) (ht : TabQ w) (hs : s.size ≤ 400) (q : Qy) (hp : parseQ s = .ok q) : Calls Tryz.prog 25 #[.string s] w fun r w' => AskR s w r w':=by
 have ba:=below_alloc w (.cells #[.slice none 0 0,.slice none 0 0,.slice none 0 0,.int .i64 0,.int .i64 0,.int .i64 0,.int .i64 0] 28)
 have BA:=hidE ba
 have BR:=hidE (blk_alloc w [.slice none 0 0,.slice none 0 0,.slice none 0 0,.int .i64 0,.int .i64 0,.int .i64 0,.int .i64 0] 28)
 have TR:=hidE (tyAt_new w #[.slice none 0 0,.slice none 0 0,.slice none 0 0,.int .i64 0,.int .i64 0,.int .i64 0,.int .i64 0] 28)
 have h4 : ¬ (400 : Int) < (s.size : Int):=by omega
 have PA:=parse_any s _ (ht.below ba)
 unfold ParseR at PA
 rw [hp] at PA
 simp only at PA
 have HP:=hidE hp
 clear hp
 have PAH:=hidE PA
 have e9 : (w.alloc (.cells #[.slice none 0 0,.slice none 0 0,.slice none 0 0,.int .i64 0,.int .i64 0,.int .i64 0,.int .i64 0] 28)).heap.size = w.heap.size + 1:=by simp
 have HE9:=hidE e9
 clear PA ba ht hs e9
 go_enter Tryz.func25,Tryz.ntmps25
 go_wp2_with fail
 generalize (w.alloc (.cells #[.slice none 0 0,.slice none 0 0,.slice none 0 0,.int .i64 0,.int .i64 0,.int .i64 0,.int .i64 0] 28)) = w0 at *
 refine PAH.out.mono ?_
 rintro r w1 ⟨hb,va,vw,vb,ps,rfl,hqo⟩
 obtain ⟨a1,n1,c1,rfl⟩ : ∃ a n c,va = .slice a n c:=by obtain ⟨a,c,e⟩:=owns_shapeE hqo.row;exact ⟨_,_,_,e⟩
 obtain ⟨a2,c2,e2⟩:=rowG_shape (optR_nod hqo.wh).1
 obtain ⟨a3,c3,e3⟩:=rowG_shape (optR_nod hqo.by_).1
 subst e2 e3
 unfold qyV
 have B1:=hidE (BA.out.trans (hb.mono BA.out.size))
 have BR1:=hidE (blk_below BR.out hb BR.out.lt)
 have TR1:=hidE (tyAt_kept TR.out (keptB_of_below (bad:=fun _ => False) hb) id)
 have lr1:=BR1.out.lt
 have bv:=below_alloc w1 (.cells #[.slice a1 n1 c1,.slice a2 q.wh.length c2,.slice a3 q.bys.length c3,.int .i64 q.size,.int .i64 q.slide,.int .i64 q.delay,.int .i64 q.late] 28)
 have BV:=hidE (blk_alloc w1 [.slice a1 n1 c1,.slice a2 q.wh.length c2,.slice a3 q.bys.length c3,.int .i64 q.size,.int .i64 q.slide,.int .i64 q.delay,.int .i64 q.late] 28)
 have B2:=hidE (B1.out.trans (bv.mono B1.out.size))
 have BR2:=hidE (blk_below BR1.out bv lr1)
 have TR2:=hidE (tyAt_kept TR1.out (keptB_of_below (bad:=fun _ => False) bv) id)
 have QO2:=hidE (qyO_below hqo bv)
 clear hqo
 clear hb bv PAH BR TR BR1 TR1 B1 BA
 go_wp2_with fail
 generalize hgv : w1.heap.size = gv at *
 generalize w1.alloc (.cells #[.slice a1 n1 c1,.slice a2 q.wh.length c2,.slice a3 q.bys.length c3,.int .i64 q.size,.int .i64 q.slide,.int .i64 q.delay,.int .i64 q.late] 28) = w2 at *
 have d0:=BV.out.c 0 (by simp)
 have d1:=BV.out.c 1 (by simp)
 have d2:=BV.out.c 2 (by simp)
 have d3:=BV.out.c 3 (by simp)
 have d4:=BV.out.c 4 (by simp)
 have d5:=BV.out.c 5 (by simp)
 have d6:=BV.out.c 6 (by simp)
 simp only [List.getElem?_cons_zero,List.getElem?_cons_succ] at d0 d1 d2 d3 d4 d5 d6
 have lv:=BV.out.lt
 have nv : ¬ gv = w.heap.size:=by omega
 have dd : Below w2.heap.size w2 ({ w2 with drawn:=w2.drawn + 1 } : World):=(Below.refl _ _).drew
 have hS : KeptB w2 ({ w2 with drawn:=w2.drawn + 1 } : World) (fun q => q = w.heap.size):=keptB_of_below dd
 have BR3:=hidE (blk_below BR2.out dd BR2.out.lt)
 have TR3:=hidE (tyAt_kept TR2.out (keptB_of_below (bad:=fun _ => False) dd) id)
 have B3:=hidE (B2.out.trans (dd.mono B2.out.size))
 have QO3:=hidE (qyO_below QO2.out dd)
 clear dd BR2 TR2 B2 BV QO2
 refine wp_region_held (S:=fun w' => KeptB w2 w' (fun q => q = w.heap.size)) (by kernel_rfl) ?_
 generalize ({ w2 with drawn:=w2.drawn + 1 } : World) = wd at *
 have f0:=BR3.out.fz 0
 have y0:=BR3.out.c 0 (by simp)
 have f1:=BR3.out.fz 1
 have y1:=BR3.out.c 1 (by simp)
 have f2:=BR3.out.fz 2
 have y2:=BR3.out.c 2 (by simp)
 have f3:=BR3.out.fz 3
 have y3:=BR3.out.c 3 (by simp)
 have f4:=BR3.out.fz 4
 have y4:=BR3.out.c 4 (by simp)
 have f5:=BR3.out.fz 5
 have y5:=BR3.out.c 5 (by simp)
 have f6:=BR3.out.fz 6
 have y6:=BR3.out.c 6 (by simp)
 simp only [List.getElem?_cons_zero,List.getElem?_cons_succ] at y0 y1 y2 y3 y4 y5 y6
 have Z:=hidE (show BlkAt (((((((wd.setCell ⟨w.heap.size,0,none⟩ (.slice a1 n1 c1)).setCell ⟨w.heap.size,1,none⟩ (.slice a2 q.wh.length c2)).setCell ⟨w.heap.size,2,none⟩ (.slice a3 q.bys.length c3)).setCell ⟨w.heap.size,3,none⟩ (.int .i64 q.size)).setCell ⟨w.heap.size,4,none⟩ (.int .i64 q.slide)).setCell ⟨w.heap.size,5,none⟩ (.int .i64 q.delay)).setCell ⟨w.heap.size,6,none⟩ (.int .i64 q.late)) w.heap.size [.slice a1 n1 c1,.slice a2 q.wh.length c2,.slice a3 q.bys.length c3,.int .i64 q.size,.int .i64 q.slide,.int .i64 q.delay,.int .i64 q.late] by simpa using (blk_set (blk_set (blk_set (blk_set (blk_set (blk_set (blk_set BR3.out 0 (.slice a1 n1 c1) (by simp)) 1 (.slice a2 q.wh.length c2) (by simp)) 2 (.slice a3 q.bys.length c3) (by simp)) 3 (.int .i64 q.size) (by simp)) 4 (.int .i64 q.slide) (by simp)) 5 (.int .i64 q.delay) (by simp)) 6 (.int .i64 q.late) (by simp)))
 have KG : Hid (KeptB wd (((((((wd.setCell ⟨w.heap.size,0,none⟩ (.slice a1 n1 c1)).setCell ⟨w.heap.size,1,none⟩ (.slice a2 q.wh.length c2)).setCell ⟨w.heap.size,2,none⟩ (.slice a3 q.bys.length c3)).setCell ⟨w.heap.size,3,none⟩ (.int .i64 q.size)).setCell ⟨w.heap.size,4,none⟩ (.int .i64 q.slide)).setCell ⟨w.heap.size,5,none⟩ (.int .i64 q.delay)).setCell ⟨w.heap.size,6,none⟩ (.int .i64 q.late)) (fun q => q = w.heap.size)):=(keptB_set (keptB_set (keptB_set (keptB_set (keptB_set (keptB_set (keptB_set (keptB_of_below (bad:=fun q => q = w.heap.size) (Below.refl wd.heap.size wd)) rfl 0 _) rfl 1 _) rfl 2 _) rfl 3 _) rfl 4 _) rfl 5 _) rfl 6 _)
 refine held_take (i:=0) (v:=.agg #[.slice a1 n1 c1,.slice a2 q.wh.length c2,.slice a3 q.bys.length c3,.int .i64 q.size,.int .i64 q.slide,.int .i64 q.delay,.int .i64 q.late]) (L:=#[true,false,false,false,false]) rfl (by kernel_rfl) (by kernel_rfl) (by kernel_rfl) (fun c a w h => h) (Or.inl ⟨by kernel_rfl,fun wq hq => by have q0:=(kept_cell hq 0 lv nv).trans d0;have q1:=(kept_cell hq 1 lv nv).trans d1;have q2:=(kept_cell hq 2 lv nv).trans d2;have q3:=(kept_cell hq 3 lv nv).trans d3;have q4:=(kept_cell hq 4 lv nv).trans d4;have q5:=(kept_cell hq 5 lv nv).trans d5;have q6:=(kept_cell hq 6 lv nv).trans d6;go_simp⟩) hS (by kernel_rfl) ?_
 refine held_take (i:=1) (v:=.nilIface) (L:=#[true,true,false,false,false]) rfl (by kernel_rfl) (by kernel_rfl) (by kernel_rfl) (fun c a w h => h) (Or.inl ⟨by kernel_rfl,fun wq hq => by go_simp⟩) hS (by kernel_rfl) ?_
 refine held_take (i:=2) (v:=.bool true) (L:=#[true,true,true,false,false]) rfl (by kernel_rfl) (by kernel_rfl) (by kernel_rfl) (fun c a w h => h) (Or.inl ⟨by kernel_rfl,fun wq hq => by go_simp⟩) hS (by kernel_rfl) ?_
 refine held_go (i:=3) (L:=#[true,true,true,true,false]) (by kernel_rfl) rfl (by kernel_rfl) (by kernel_rfl) ?_
 intro K' hK
 go_simp
 refine hK _ _ ⟨keptB_trans hS KG.out,?_⟩
 clear hK
 refine held_go (i:=4) (L:=#[true,true,true,true,true]) (by kernel_rfl) rfl (by kernel_rfl) (by kernel_rfl) ?_
 intro K' hK
 go_simp
 refine hK _ _ ⟨keptB_trans hS KG.out,?_⟩
 clear hK
 refine wpAnyH_done (by kernel_rfl) ?_ _
 clear hS d0 y0 f0 d1 y1 f1 d2 y2 f2 d3 y3 f3 d4 y4 f4 d5 y5 f5 d6 y6 f6
 generalize (((((((wd.setCell ⟨w.heap.size,0,none⟩ (.slice a1 n1 c1)).setCell ⟨w.heap.size,1,none⟩ (.slice a2 q.wh.length c2)).setCell ⟨w.heap.size,2,none⟩ (.slice a3 q.bys.length c3)).setCell ⟨w.heap.size,3,none⟩ (.int .i64 q.size)).setCell ⟨w.heap.size,4,none⟩ (.int .i64 q.slide)).setCell ⟨w.heap.size,5,none⟩ (.int .i64 q.delay)).setCell ⟨w.heap.size,6,none⟩ (.int .i64 q.late)) = wz at *
 go_wp2_with fail
 have z0:=Z.out.c 0 (by simp)
 have z1:=Z.out.c 1 (by simp)
 have z2:=Z.out.c 2 (by simp)
 have z3:=Z.out.c 3 (by simp)
 have z4:=Z.out.c 4 (by simp)
 have z5:=Z.out.c 5 (by simp)
 have z6:=Z.out.c 6 (by simp)
 simp only [List.getElem?_cons_zero,List.getElem?_cons_succ] at z0 z1 z2 z3 z4 z5 z6
 refine bodyPost_ret (v:=.tuple #[.agg #[.slice a1 n1 c1,.slice a2 q.wh.length c2,.slice a3 q.bys.length c3,.int .i64 q.size,.int .i64 q.slide,.int .i64 q.delay,.int .i64 q.late],.bool true]) (by simp [results,Tryz.results25,go_sem,z0,z1,z2,z3,z4,z5,z6]) rfl ?_
 refine ⟨keptB_below (kept_own (gp:=w.heap.size) (keptB_of_below B3.out) KG.out (Nat.le_refl _)) (Nat.le_refl _) (fun k e => by omega),?_⟩
 exact .inr ⟨q,_,_,_,ps,HP.out,rfl,qyO_base (qyO_ty QO3.out KG.out TR3.out qty_node qty_agg) (by have:=HE9.out;omega)⟩
theorem asked_any (s : ByteArray) (w : World) (ht : TabQ w) : Calls Tryz.prog 25 #[.string s] w fun r w' => AskR s w r w':=by
 by_cases h : 400 < s.size
 ·exact asked_long s w h
 ·cases hp : parseQ s with
  | error c => exact asked_bad s w ht (by omega) c hp
  | ok q => exact asked_ok s w ht (by omega) q hp
theorem chk_of_parse {s : ByteArray} {q : Qy} (h : parseQ s = .ok q) : chkQ q = 0:=by
 unfold parseQ at h
 split at h
 ·cases h
 ·cases hq : questP (lexT s).2 with
  | error c => rw [hq] at h;cases h
  | ok q9 =>
   rw [hq] at h
   simp only at h
   split at h
   ·cases h
   ·rename_i hc
    cases h
    exact Classical.byContradiction hc
theorem partC_vs {q : Qy} : ∀ (l : List Ev) (g : Int) (k : Bool),∀ c ∈ partC q g k l,c.vs.length = q.aggs.length
 | [],g,k,c,hc => by simp [partC] at hc
 | x :: l,g,k,c,hc => by
  unfold partC at hc
  by_cases h : evC x ≠ 0
  ·rw [if_pos h] at hc
   exact partC_vs l g k c hc
  ·rw [if_neg h] at hc
   rcases List.mem_append.1 hc with hc | hc
   ·unfold takeC at hc
    split at hc
    ·exact putL_vs c hc
    ·simp at hc
   ·exact partC_vs l _ true c hc
theorem allC_vs {q : Qy} {M : List (List Ev)} : ∀ c ∈ allC q M,c.vs.length = q.aggs.length:=fun c hc => by
 obtain ⟨l,-,h⟩:=List.mem_flatMap.1 hc
 exact partC_vs l 0 false c h
end Go.Proofs.YtcgjflamgnjhcaaGreatDoor

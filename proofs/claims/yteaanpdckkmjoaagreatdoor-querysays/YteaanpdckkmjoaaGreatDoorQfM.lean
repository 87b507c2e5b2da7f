/- The law QueryOf's answers, over this seat's translation. Conditions: as named. -/
import Derived.Test.YteaanpdckkmjoaaGreatDoorPrsNJ
set_option linter.unusedVariables false
set_option linter.unusedSimpArgs false
set_option maxRecDepth 100000
set_option maxHeartbeats 8000000
namespace Go.Proofs.YteaanpdckkmjoaaGreatDoor
open Go.ChangeShapes Go.WideShapes Go.ChangeAt Go.RowKit
theorem fGood (R : Ending → World → Prop) (C55 C57 Y : Code) (h55 : rgn 55 (Tryz.f13.body.getD .skip) = some C55) (h57 : rgn 57 (Tryz.f13.body.getD .skip) = some C57) (t : List Value) (g gr gq : Nat) (wv : Value) (all : Ws) (ws : Ws) (va vw vb : Value) (q : Qy) (W w : World) (ht : t.length = 167) (k2 : t[2]? = some (.pointer (some ⟨gr,0,none⟩))) (k6 : t[6]? = some (.pointer (some ⟨g,0,none⟩))) (k7 : t[7]? = some (.pointer (some ⟨gq,0,none⟩))) (h : QD W w g gr gq wv all (.ok ws) va vw vb q)
  (hR : ∀ w' ps,Below W.heap.size W w' → QyO w' W.heap.size va vw vb q ps → R (.returned (.tuple #[qyV va vw vb q,.int .i64 0])) w') :
  Code.wp Tryz.prog (.seq (.seq C55 (.cond (.tmp 160) Y .skip)) (.seq C57 .ret)) (bodyPost Tryz.prog Tryz.f13 R) { tmps:=t.toArray,defers:=[] } w:=by
 have HR:=hidE hR
 have H:=hidE h
 clear h hR
 obtain ⟨n9,hp⟩:=H.out.ps
 have c3 : w.cell? ⟨g,3,none⟩ = some (.int .i64 0):=hp.bd.c 3 (by simp)
 have lgr:=H.out.lg
 have llr:=H.out.lr
 have HB:=hidE H.out.kp
 obtain ⟨a1,n1,m1,rfl⟩:=sl_shape (aggs_sl H.out.ag)
 obtain ⟨a2,n2,m2,rfl⟩:=sl_shape H.out.hw.1
 obtain ⟨a3,n3,m3,rfl⟩:=sl_shape H.out.hb.1
 obtain ⟨ps,hqo⟩:=qyO_of H.out.ag H.out.hw H.out.hb W.heap.size (by omega) (by omega)
 have TR:=H.out.tr
 have BR:=H.out.br
 have d0:=H.out.bq.c 0 (by simp)
 have d1:=H.out.bq.c 1 (by simp)
 have d2:=H.out.bq.c 2 (by simp)
 have d3:=H.out.bq.c 3 (by simp)
 have d4:=H.out.bq.c 4 (by simp)
 have d5:=H.out.bq.c 5 (by simp)
 have d6:=H.out.bq.c 6 (by simp)
 simp only [List.getElem?_cons_zero,List.getElem?_cons_succ] at d0 d1 d2 d3 d4 d5 d6
 clear hp
 have KG : Hid (KeptB w (((((((w.setCell ⟨gr,0,none⟩ (.slice a1 n1 m1)).setCell ⟨gr,1,none⟩ (.slice a2 n2 m2)).setCell ⟨gr,2,none⟩ (.slice a3 n3 m3)).setCell ⟨gr,3,none⟩ (.int .i64 q.size)).setCell ⟨gr,4,none⟩ (.int .i64 q.slide)).setCell ⟨gr,5,none⟩ (.int .i64 q.delay)).setCell ⟨gr,6,none⟩ (.int .i64 q.late)) (fun k => k = gr)):=(keptB_set (keptB_set (keptB_set (keptB_set (keptB_set (keptB_set (keptB_set (keptB_of_below (bad:=fun k => k = gr) (Below.refl w.heap.size w)) rfl 0 _) rfl 1 _) rfl 2 _) rfl 3 _) rfl 4 _) rfl 5 _) rfl 6 _)
 have ZZ:=hidE (show BlkAt (((((((w.setCell ⟨gr,0,none⟩ (.slice a1 n1 m1)).setCell ⟨gr,1,none⟩ (.slice a2 n2 m2)).setCell ⟨gr,2,none⟩ (.slice a3 n3 m3)).setCell ⟨gr,3,none⟩ (.int .i64 q.size)).setCell ⟨gr,4,none⟩ (.int .i64 q.slide)).setCell ⟨gr,5,none⟩ (.int .i64 q.delay)).setCell ⟨gr,6,none⟩ (.int .i64 q.late)) gr [.slice a1 n1 m1,.slice a2 n2 m2,.slice a3 n3 m3,.int .i64 q.size,.int .i64 q.slide,.int .i64 q.delay,.int .i64 q.late] by simpa using (blk_set (blk_set (blk_set (blk_set (blk_set (blk_set (blk_set BR 0 (.slice a1 n1 m1) (by simp)) 1 (.slice a2 n2 m2) (by simp)) 2 (.slice a3 n3 m3) (by simp)) 3 (.int .i64 q.size) (by simp)) 4 (.int .i64 q.slide) (by simp)) 5 (.int .i64 q.delay) (by simp)) 6 (.int .i64 q.late) (by simp)))
 have f0:=BR.fz 0
 have b0:=BR.c 0 (by simp)
 have f1:=BR.fz 1
 have b1:=BR.c 1 (by simp)
 have f2:=BR.fz 2
 have b2:=BR.c 2 (by simp)
 have f3:=BR.fz 3
 have b3:=BR.c 3 (by simp)
 have f4:=BR.fz 4
 have b4:=BR.c 4 (by simp)
 have f5:=BR.fz 5
 have b5:=BR.c 5 (by simp)
 have f6:=BR.fz 6
 have b6:=BR.c 6 (by simp)
 simp only [List.getElem?_cons_zero,List.getElem?_cons_succ] at b0 b1 b2 b3 b4 b5 b6
 have QO:=hidE (qyO_ty hqo KG.out TR qty_node qty_agg)
 clear hqo BR
 obtain ⟨f,hf,hi⟩:=listedQ t ht
 have e2:=some_at (hi 2 (by decide)) k2
 have e6:=some_at (hi 6 (by decide)) k6
 have e7:=some_at (hi 7 (by decide)) k7
 rw [e2,e6,e7] at hf
 clear hi ht k2 e2 k6 e6 k7 e7
 subst hf
 unfold Tryz.f13 at h55
 simp [rgn] at h55
 subst h55
 unfold Tryz.f13 at h57
 simp [rgn] at h57
 subst h57
 go_wp2_with fail
 generalize (((((((w.setCell ⟨gr,0,none⟩ (.slice a1 n1 m1)).setCell ⟨gr,1,none⟩ (.slice a2 n2 m2)).setCell ⟨gr,2,none⟩ (.slice a3 n3 m3)).setCell ⟨gr,3,none⟩ (.int .i64 q.size)).setCell ⟨gr,4,none⟩ (.int .i64 q.slide)).setCell ⟨gr,5,none⟩ (.int .i64 q.delay)).setCell ⟨gr,6,none⟩ (.int .i64 q.late)) = wz at *
 have z0:=ZZ.out.c 0 (by simp)
 have z1:=ZZ.out.c 1 (by simp)
 have z2:=ZZ.out.c 2 (by simp)
 have z3:=ZZ.out.c 3 (by simp)
 have z4:=ZZ.out.c 4 (by simp)
 have z5:=ZZ.out.c 5 (by simp)
 have z6:=ZZ.out.c 6 (by simp)
 simp only [List.getElem?_cons_zero,List.getElem?_cons_succ] at z0 z1 z2 z3 z4 z5 z6
 refine bodyPost_ret (v:=.tuple #[.agg #[.slice a1 n1 m1,.slice a2 n2 m2,.slice a3 n3 m3,.int .i64 q.size,.int .i64 q.slide,.int .i64 q.delay,.int .i64 q.late],.int .i64 0]) (by simp [results,Tryz.results13,go_sem,z0,z1,z2,z3,z4,z5,z6]) rfl ?_
 exact HR.out _ ps (below_kept HB.out KG.out (fun k e => by omega)) QO.out
theorem fBad (R : Ending → World → Prop) (C55 C56 : Code) (h55 : rgn 55 (Tryz.f13.body.getD .skip) = some C55) (h56 : rgn 56 (Tryz.f13.body.getD .skip) = some C56) (Y : Code) (t : List Value) (g gr gq : Nat) (wv : Value) (all : Ws) (c : Int) (va vw vb : Value) (q : Qy) (W w : World) (ht : t.length = 167) (k2 : t[2]? = some (.pointer (some ⟨gr,0,none⟩))) (k6 : t[6]? = some (.pointer (some ⟨g,0,none⟩))) (k7 : t[7]? = some (.pointer (some ⟨gq,0,none⟩))) (h : QD W w g gr gq wv all (.error c) va vw vb q)
  (hR : ∀ w',Below W.heap.size W w' → 0 < c → R (.returned (.tuple #[qzV,.int .i64 c])) w') :
  Code.wp Tryz.prog (.seq (.seq C55 (.cond (.tmp 160) (.seq C56 .ret) .skip)) Y) (bodyPost Tryz.prog Tryz.f13 R) { tmps:=t.toArray,defers:=[] } w:=by
 have HR:=hidE hR
 have H:=hidE h
 clear h hR
 obtain ⟨n9,hc,hp⟩:=H.out.ps
 have c3 : w.cell? ⟨g,3,none⟩ = some (.int .i64 c):=hp.bd.c 3 (by simp)
 have q0:=decide_eq_true hc
 have lgw:=hp.bd.lt
 have lgr:=H.out.lg
 have llr:=H.out.lr
 have ng : ¬ (g = gr):=by omega
 have HB:=hidE H.out.kp
 have HC:=hidE hc
 have BR:=H.out.br
 clear hp
 obtain ⟨f,hf,hi⟩:=listedQ t ht
 have e2:=some_at (hi 2 (by decide)) k2
 have e6:=some_at (hi 6 (by decide)) k6
 have e7:=some_at (hi 7 (by decide)) k7
 rw [e2,e6,e7] at hf
 clear hi ht k2 e2 k6 e6 k7 e7
 subst hf
 unfold Tryz.f13 at h55
 simp [rgn] at h55
 subst h55
 unfold Tryz.f13 at h56
 simp [rgn] at h56
 subst h56
 go_wp2_with fail
 rename_i K2 hK2
 have hb0 : Below w.heap.size w ({ w with drawn:=w.drawn + 1 } : World):=(Below.refl _ _).drew
 have hS : KeptB w ({ w with drawn:=w.drawn + 1 } : World) (fun k => k = gr):=keptB_of_below hb0
 have BR:=blk_below BR hb0 BR.lt
 clear H hb0
 refine wp_region_held (S:=fun w' => KeptB w w' (fun k => k = gr)) (by kernel_rfl) ?_
 generalize ({ w with drawn:=w.drawn + 1 } : World) = wd at *
 have KG : Hid (KeptB wd (((((((wd.setCell ⟨gr,0,none⟩ (.slice none 0 0)).setCell ⟨gr,1,none⟩ (.slice none 0 0)).setCell ⟨gr,2,none⟩ (.slice none 0 0)).setCell ⟨gr,3,none⟩ (.int .i64 0)).setCell ⟨gr,4,none⟩ (.int .i64 0)).setCell ⟨gr,5,none⟩ (.int .i64 0)).setCell ⟨gr,6,none⟩ (.int .i64 0)) (fun k => k = gr)):=(keptB_set (keptB_set (keptB_set (keptB_set (keptB_set (keptB_set (keptB_set (keptB_of_below (bad:=fun k => k = gr) (Below.refl wd.heap.size wd)) rfl 0 _) rfl 1 _) rfl 2 _) rfl 3 _) rfl 4 _) rfl 5 _) rfl 6 _)
 have ZZ:=hidE (show BlkAt (((((((wd.setCell ⟨gr,0,none⟩ (.slice none 0 0)).setCell ⟨gr,1,none⟩ (.slice none 0 0)).setCell ⟨gr,2,none⟩ (.slice none 0 0)).setCell ⟨gr,3,none⟩ (.int .i64 0)).setCell ⟨gr,4,none⟩ (.int .i64 0)).setCell ⟨gr,5,none⟩ (.int .i64 0)).setCell ⟨gr,6,none⟩ (.int .i64 0)) gr [.slice none 0 0,.slice none 0 0,.slice none 0 0,.int .i64 0,.int .i64 0,.int .i64 0,.int .i64 0] by simpa using (blk_set (blk_set (blk_set (blk_set (blk_set (blk_set (blk_set BR 0 (.slice none 0 0) (by simp)) 1 (.slice none 0 0) (by simp)) 2 (.slice none 0 0) (by simp)) 3 (.int .i64 0) (by simp)) 4 (.int .i64 0) (by simp)) 5 (.int .i64 0) (by simp)) 6 (.int .i64 0) (by simp)))
 have f0:=BR.fz 0
 have b0:=BR.c 0 (by simp)
 have f1:=BR.fz 1
 have b1:=BR.c 1 (by simp)
 have f2:=BR.fz 2
 have b2:=BR.c 2 (by simp)
 have f3:=BR.fz 3
 have b3:=BR.c 3 (by simp)
 have f4:=BR.fz 4
 have b4:=BR.c 4 (by simp)
 have f5:=BR.fz 5
 have b5:=BR.c 5 (by simp)
 have f6:=BR.fz 6
 have b6:=BR.c 6 (by simp)
 simp only [List.getElem?_cons_zero,List.getElem?_cons_succ] at b0 b1 b2 b3 b4 b5 b6
 have hSZ:=hidE (keptB_trans hS KG.out)
 clear BR
 refine held_take (i:=0) (v:=.agg #[.slice none 0 0,.slice none 0 0,.slice none 0 0,.int .i64 0,.int .i64 0,.int .i64 0,.int .i64 0]) (L:=#[true,false,false,false,false,false,false]) rfl (by kernel_rfl) (by kernel_rfl) (by kernel_rfl) (fun c a w h => pan_body (P:=Tryz.prog) (fn:=Tryz.f13) (R:=R) c a _ _ w h) (Or.inl ⟨by kernel_rfl,fun wq hq => by go_simp⟩) hS (by kernel_rfl) ?_
 refine held_take (i:=1) (v:=.pointer (some ⟨g,0,none⟩)) (L:=#[true,true,false,false,false,false,false]) rfl (by kernel_rfl) (by kernel_rfl) (by kernel_rfl) (fun c a w h => pan_body (P:=Tryz.prog) (fn:=Tryz.f13) (R:=R) c a _ _ w h) (Or.inl ⟨by kernel_rfl,fun wq hq => by go_simp⟩) hS (by kernel_rfl) ?_
 refine held_take (i:=2) (v:=.pointer (some ⟨g,0,none⟩)) (L:=#[true,true,true,false,false,false,false]) rfl (by kernel_rfl) (by kernel_rfl) (by kernel_rfl) (fun c a w h => pan_body (P:=Tryz.prog) (fn:=Tryz.f13) (R:=R) c a _ _ w h) (Or.inl ⟨by kernel_rfl,fun wq hq => by go_simp⟩) hS (by kernel_rfl) ?_
 refine held_take (i:=3) (v:=.pointer (some ⟨g,3,none⟩)) (L:=#[true,true,true,true,false,false,false]) rfl (by kernel_rfl) (by kernel_rfl) (by kernel_rfl) (fun c a w h => pan_body (P:=Tryz.prog) (fn:=Tryz.f13) (R:=R) c a _ _ w h) (Or.inl ⟨by kernel_rfl,fun wq hq => by go_simp⟩) hS (by kernel_rfl) ?_
 refine held_take (i:=4) (v:=.int .i64 c) (L:=#[true,true,true,true,true,false,false]) rfl (by kernel_rfl) (by kernel_rfl) (by kernel_rfl) (fun c a w h => pan_body (P:=Tryz.prog) (fn:=Tryz.f13) (R:=R) c a _ _ w h) (Or.inl ⟨by kernel_rfl,fun wq hq => by have q9:=kept_cell hq 3 lgw ng;rw [c3] at q9;go_simp⟩) hS (by kernel_rfl) ?_
 refine held_go (i:=5) (L:=#[true,true,true,true,true,true,false]) (by kernel_rfl) rfl (by kernel_rfl) (by kernel_rfl) ?_
 intro K' hK
 go_simp
 refine hK _ _ ⟨hSZ.out,?_⟩
 clear hK
 refine held_go (i:=6) (L:=#[true,true,true,true,true,true,true]) (by kernel_rfl) rfl (by kernel_rfl) (by kernel_rfl) ?_
 intro K' hK
 go_simp
 refine hK _ _ ⟨hSZ.out,?_⟩
 clear hK
 refine wpAnyH_done (by kernel_rfl) ?_ _
 clear hS
 refine then_normal (hK2 _ _ ?_)
 go_wp2_with fail
 generalize (((((((wd.setCell ⟨gr,0,none⟩ (.slice none 0 0)).setCell ⟨gr,1,none⟩ (.slice none 0 0)).setCell ⟨gr,2,none⟩ (.slice none 0 0)).setCell ⟨gr,3,none⟩ (.int .i64 0)).setCell ⟨gr,4,none⟩ (.int .i64 0)).setCell ⟨gr,5,none⟩ (.int .i64 0)).setCell ⟨gr,6,none⟩ (.int .i64 0)) = wz at *
 have z0:=ZZ.out.c 0 (by simp)
 have z1:=ZZ.out.c 1 (by simp)
 have z2:=ZZ.out.c 2 (by simp)
 have z3:=ZZ.out.c 3 (by simp)
 have z4:=ZZ.out.c 4 (by simp)
 have z5:=ZZ.out.c 5 (by simp)
 have z6:=ZZ.out.c 6 (by simp)
 simp only [List.getElem?_cons_zero,List.getElem?_cons_succ] at z0 z1 z2 z3 z4 z5 z6
 refine bodyPost_ret (v:=.tuple #[.agg #[.slice none 0 0,.slice none 0 0,.slice none 0 0,.int .i64 0,.int .i64 0,.int .i64 0,.int .i64 0],.int .i64 c]) (by simp [results,Tryz.results13,go_sem,z0,z1,z2,z3,z4,z5,z6]) rfl ?_
 exact HR.out _ (below_kept HB.out hSZ.out (fun k e => by omega)) HC.out
end Go.Proofs.YteaanpdckkmjoaaGreatDoor

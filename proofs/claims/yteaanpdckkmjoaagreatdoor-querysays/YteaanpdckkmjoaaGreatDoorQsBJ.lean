/- Several texts in one, each with its own head. What is proved: what the parts say. Conditions: theirs. -/
import Derived.Test.YteaanpdckkmjoaaGreatDoorSameQJ
import Derived.Test.YteaanpdckkmjoaaGreatDoorRows
import Derived.WalkKit
import Derived.ProofKit
import Derived.OpenShut
import Derived.ShutString
import Derived.ChangeOld
import Derived.Below
import Derived.Lib.SmallJoins
import Derived.Test.YteaanpdckkmjoaaGreatDoorLexPureJ
import Derived.Test.YteaanpdckkmjoaaGreatDoorParsePureJ
import Derived.Test.YteaanpdckkmjoaaGreatDoorRqCJ
import Derived.Test.YteaanpdckkmjoaaGreatDoorExprPureJ
import Derived.Test.YteaanpdckkmjoaaGreatDoorChkRJ
import Derived.Deep.Slices
import Derived.Test.YteaanpdckkmjoaaGreatDoorExpr9J
import Derived.Test.YteaanpdckkmjoaaGreatDoorExpr2J
set_option linter.unusedVariables false
set_option linter.unusedSimpArgs false
set_option maxRecDepth 100000
set_option maxHeartbeats 8000000
namespace Go.Proofs.YteaanpdckkmjoaaGreatDoor
open Go.ChangeShapes Go.WideShapes Go.ChangeAt Go.RowKit
theorem chk_parsed {s : ByteArray} {q : Qy} (h : parseQ s = .ok q) : chkQ q = 0:=by
 unfold parseQ at h
 split at h
 ·cases h
 ·cases hq : questP (lexT s).2 with
  | error c => rw [hq] at h;cases h
  | ok q9 =>
   rw [hq] at h
   simp only at h
   split at h
   ·cases h
   ·rename_i hc
    cases h
    exact Classical.byContradiction hc
theorem querySays_walk (va vw vb : Value) (q : Qy) (ps : List (AgQ × Value)) (s : ByteArray) (W : World) (h : QyW W va vw vb q ps) (hs : s.size ≤ maxLen) (ht : TabQ W) :
  Calls Tryz.prog 3 #[qyV va vw vb q,.string s] W fun e w' => e = .returned (.bool true) ∧ Below W.heap.size W w':=by
 unfold qyV
 obtain ⟨ao,cap,rfl⟩:=rowG_shape h.row
 obtain ⟨a2,c2,rfl⟩:=rowG_shape h.wh
 obtain ⟨a3,c3,rfl⟩:=rowG_shape h.by_
 unfold maxLen at hs
 have ba:=below_alloc W (.cells #[.slice ao ps.length cap,.slice a2 q.wh.length c2,.slice a3 q.bys.length c3,.int .i64 q.size,.int .i64 q.slide,.int .i64 q.delay,.int .i64 q.late] 25)
 have BA:=hidE ba
 have BQ:=hidE (blk_alloc W [.slice ao ps.length cap,.slice a2 q.wh.length c2,.slice a3 q.bys.length c3,.int .i64 q.size,.int .i64 q.slide,.int .i64 q.delay,.int .i64 q.late] 25)
 have H0:=hidE (qyW_below h ba)
 have T0:=ht.below ba
 have QS:=hidE (queries_any _ T0)
 have T0:=hidE T0
 have lgz : W.heap.size < (W.alloc (.cells #[.slice ao ps.length cap,.slice a2 q.wh.length c2,.slice a3 q.bys.length c3,.int .i64 q.size,.int .i64 q.slide,.int .i64 q.delay,.int .i64 q.late] 25)).heap.size:=by simp
 clear h ba ht
 go_enter Tryz.func3,Tryz.ntmps3
 go_wp2_with fail
 generalize (W.alloc (.cells #[.slice ao ps.length cap,.slice a2 q.wh.length c2,.slice a3 q.bys.length c3,.int .i64 q.size,.int .i64 q.slide,.int .i64 q.delay,.int .i64 q.late] 25)) = w1 at *
 refine QS.out.mono ?_
 rintro e w2 ⟨rfl,hb⟩
 have B2:=hidE (BA.out.trans (hb.mono BA.out.size))
 have BZ2:=hidE (blk_below BQ.out hb lgz)
 have H2:=hidE (qyW_below H0.out hb)
 have T2:=hidE (T0.out.below hb)
 have LQ:=hidE (lightQ_any _ _ _ q ps w2 H2.out)
 unfold qyV at LQ
 have z0:=BZ2.out.c 0 (by simp)
 have z1:=BZ2.out.c 1 (by simp)
 have z2:=BZ2.out.c 2 (by simp)
 have z3:=BZ2.out.c 3 (by simp)
 have z4:=BZ2.out.c 4 (by simp)
 have z5:=BZ2.out.c 5 (by simp)
 have z6:=BZ2.out.c 6 (by simp)
 simp only [List.getElem?_cons_zero,List.getElem?_cons_succ] at z0 z1 z2 z3 z4 z5 z6
 clear hb QS BQ H0 T0 BA
 go_wp2_with fail
 refine LQ.out.mono ?_
 rintro e w3 ⟨⟨b,rfl,hlb⟩,hb⟩
 have B3:=hidE (B2.out.trans (hb.mono B2.out.size))
 have BZ3:=hidE (blk_below BZ2.out hb BZ2.out.lt)
 have H3:=hidE (qyW_below H2.out hb)
 have T3:=hidE (T2.out.below hb)
 clear hb LQ B2 BZ2 H2 T2 z0 z1 z2 z3 z4 z5 z6
 cases b with
 | false =>
  clear hlb
  go_wp2_with fail
  go_ret
  exact ⟨rfl,B3.out⟩
 | true =>
  have HG:=hidE (qyG_light H3.out (hlb rfl))
  clear hlb H3
  by_cases h4 : 400 < s.size
  ·have q1 : decide ((400 : Int) < (s.size : Int)) = true:=decide_eq_true (by omega)
   go_wp2_with fail
   go_ret
   exact ⟨rfl,B3.out⟩
  have q1 : decide ((400 : Int) < (s.size : Int)) = false:=decide_eq_false (by omega)
  have QF:=qfault_any _ _ _ q ps w3 HG.out
  unfold qyV at QF
  have QFH:=hidE QF
  have hcp:=chkQ_pos q
  obtain ⟨c,hcq⟩ : ∃ c,chkQ q = c:=⟨_,rfl⟩
  rw [hcq] at QFH hcp
  have HCQ:=hidE hcq
  have z0:=BZ3.out.c 0 (by simp)
  have z1:=BZ3.out.c 1 (by simp)
  have z2:=BZ3.out.c 2 (by simp)
  have z3:=BZ3.out.c 3 (by simp)
  have z4:=BZ3.out.c 4 (by simp)
  have z5:=BZ3.out.c 5 (by simp)
  have z6:=BZ3.out.c 6 (by simp)
  simp only [List.getElem?_cons_zero,List.getElem?_cons_succ] at z0 z1 z2 z3 z4 z5 z6
  clear QF hcq
  go_wp2_with fail
  refine QFH.out.mono ?_
  rintro e w4 ⟨rfl,hb⟩
  have B4:=hidE (B3.out.trans (hb.mono B3.out.size))
  have BZ4:=blk_below BZ3.out hb BZ3.out.lt
  have G4:=hidE (qyG_below HG.out hb)
  have T4:=hidE (T3.out.below hb)
  have lz4:=BZ4.lt
  have CK : Hid (∀ w',Below w4.heap.size w4 w' → Calls Tryz.prog 9 #[.agg #[.slice ao ps.length cap,.slice a2 q.wh.length c2,.slice a3 q.bys.length c3,.int .i64 q.size,.int .i64 q.slide,.int .i64 q.delay,.int .i64 q.late]] w' fun e w'' => e = .returned (errC c) ∧ Below w'.heap.size w' w''):=fun w' hb => by
   have h9:=qcheck_any _ _ _ q ps w' (qyG_below G4.out hb)
   rw [HCQ.out] at h9
   exact h9
  have SM : Hid (∀ w,Calls Tryz.prog 8 #[errC c,.int .i64 c] w fun e w' => e = .returned (.bool true) ∧ w' = w):=fun w => by
   have h9:=same_errC c c w hcp
   have e9 : (c == c) = true:=by simp
   rw [e9] at h9
   exact h9
  clear z0 z1 z2 z3 z4 z5 z6
  have z0:=BZ4.c 0 (by simp)
  have z1:=BZ4.c 1 (by simp)
  have z2:=BZ4.c 2 (by simp)
  have z3:=BZ4.c 3 (by simp)
  have z4:=BZ4.c 4 (by simp)
  have z5:=BZ4.c 5 (by simp)
  have z6:=BZ4.c 6 (by simp)
  simp only [List.getElem?_cons_zero,List.getElem?_cons_succ] at z0 z1 z2 z3 z4 z5 z6
  clear hb QFH B3 BZ3 BZ4 T3 HG h4
  by_cases hc : c = 0
  ·subst hc
   have TX : Hid (∀ w',Below w4.heap.size w4 w' → Calls Tryz.prog 10 #[.agg #[.slice ao ps.length cap,.slice a2 q.wh.length c2,.slice a3 q.bys.length c3,.int .i64 q.size,.int .i64 q.slide,.int .i64 q.delay,.int .i64 q.late]] w' fun e w'' => e = .returned (.string (qyB q)) ∧ Below w'.heap.size w' w''):=fun w' hb => qtext_any _ _ _ q ps w' (qyG_below G4.out hb) HCQ.out (T4.out.below hb)
   have DX : Hid (∀ w',Below w4.heap.size w4 w' → Calls Tryz.prog 11 #[.agg #[.slice ao ps.length cap,.slice a2 q.wh.length c2,.slice a3 q.bys.length c3,.int .i64 q.size,.int .i64 q.slide,.int .i64 q.delay,.int .i64 q.late]] w' fun e w'' => e = .returned (.string (qyB q)) ∧ Below w'.heap.size w' w''):=fun w' hb => dqtext_any _ _ _ q ps w' (qyG_below G4.out hb) HCQ.out
   generalize qyB q = tx at *
   have etx : (tx.toList == tx.toList) = true:=tl_same tx
   have etx2 : (tx.toList != tx.toList) = false:=by simp
   rw [errC_0] at CK SM
   have kn:=kin_some w4
   obtain ⟨kc,kf⟩:=kin_rules w4
   have KP : Hid (∀ p : Kin w4,Below w4.heap.size w4 p.w):=fun p => p.h
   have HBw : Hid (Below w4.heap.size w4 w4):=Below.refl _ _
   go_wp2_with fail
   refine wp_region_kin HBw (by kernel_rfl) (by kernel_rfl) ?_
   repeat (go_big_quiet_step ((first | (go_at_call 8;exact kin_same (SM.out _)) | (go_at_call 9;exact kin_of (CK.out _ (KP.out _))) | (go_at_call 10;exact kin_of (TX.out _ (KP.out _))) | (go_at_call 11;exact kin_of (DX.out _ (KP.out _))))))
   refine wpQuiet_nil ?_
   rintro _ ⟨pk,rfl⟩
   have hb5:=pk.h
   generalize pk.w = w5 at *
   have B5:=hidE (B4.out.trans (hb5.mono B4.out.size))
   have T5:=T4.out.below hb5
   clear kc kf kn HBw KP pk CK SM TX DX hb5 G4 B4 z0 z1 z2 z3 z4 z5 z6
   cases hp : parseQ s with
   | error c =>
    have PA:=parse_any s w5 T5
    unfold ParseR at PA
    rw [hp] at PA
    simp only at PA
    have PAH:=hidE PA
    have QO:=hidE (fun w => qof_any s w)
    have HP:=hidE hp
    have SE:=fun (c : Int) (hc : 0 ≤ c) w => same_errC c c w hc
    clear PA hp T5
    go_wp2_with fail
    refine PAH.out.mono ?_
    rintro r w6 ⟨hb6,rfl,hce⟩
    unfold qzV
    have bx:=below_alloc w6 (.cells #[.slice none 0 0,.slice none 0 0,.slice none 0 0,.int .i64 0,.int .i64 0,.int .i64 0,.int .i64 0] 25)
    have BX:=blk_alloc w6 [.slice none 0 0,.slice none 0 0,.slice none 0 0,.int .i64 0,.int .i64 0,.int .i64 0,.int .i64 0] 25
    have B6:=hidE ((B5.out.trans (hb6.mono B5.out.size)).trans (bx.mono (B5.out.trans (hb6.mono B5.out.size)).size))
    have QOW:=QO.out (w6.alloc (.cells #[.slice none 0 0,.slice none 0 0,.slice none 0 0,.int .i64 0,.int .i64 0,.int .i64 0,.int .i64 0] 25))
    unfold QofR at QOW
    rw [HP.out] at QOW
    simp only at QOW
    have QOH:=hidE QOW
    have lx : w6.heap.size < (w6.alloc (.cells #[.slice none 0 0,.slice none 0 0,.slice none 0 0,.int .i64 0,.int .i64 0,.int .i64 0,.int .i64 0] 25)).heap.size:=by simp
    have BXH:=hidE BX
    clear hb6 PAH bx BX QOW QO B5
    go_wp2_with fail
    refine QOH.out.mono ?_
    rintro r w7 ⟨hb7,rfl,hcp⟩
    unfold qzV
    have by_:=below_alloc w7 (.cells #[.slice none 0 0,.slice none 0 0,.slice none 0 0,.int .i64 0,.int .i64 0,.int .i64 0,.int .i64 0] 25)
    have BY:=blk_alloc w7 [.slice none 0 0,.slice none 0 0,.slice none 0 0,.int .i64 0,.int .i64 0,.int .i64 0,.int .i64 0] 25
    have BX7:=blk_below (blk_below BXH.out hb7 lx) by_ (by have:=hb7.size;omega)
    have B7:=hidE ((B6.out.trans (hb7.mono B6.out.size)).trans (by_.mono (B6.out.trans (hb7.mono B6.out.size)).size))
    have SM9:=hidE (SE c (by omega) (w7.alloc (.cells #[.slice none 0 0,.slice none 0 0,.slice none 0 0,.int .i64 0,.int .i64 0,.int .i64 0,.int .i64 0] 25)))
    have eqb : (c == c) = true:=by simp
    rw [eqb] at SM9
    have zq : QyG (w7.alloc (.cells #[.slice none 0 0,.slice none 0 0,.slice none 0 0,.int .i64 0,.int .i64 0,.int .i64 0,.int .i64 0] 25)) (.slice none 0 0) (.slice none 0 0) (.slice none 0 0) ⟨[],[],[],0,0,0,0⟩ []:=⟨⟨⟨rfl,.inl ⟨⟨_,_,rfl⟩,rfl⟩⟩,fun p hp => by cases hp⟩,rfl,⟨rfl,.inl ⟨⟨_,_,rfl⟩,rfl⟩⟩,⟨rfl,.inl ⟨⟨_,_,rfl⟩,rfl⟩⟩,by simp,by simp⟩
    have SQ:=query_same _ ⟨[],[],[],0,0,0,0⟩ _ _ _ _ _ _ [] [] zq zq (by simp)
    unfold qyV at SQ
    have SQH:=hidE SQ
    have x0:=BX7.c 0 (by simp)
    have x1:=BX7.c 1 (by simp)
    have x2:=BX7.c 2 (by simp)
    have x3:=BX7.c 3 (by simp)
    have x4:=BX7.c 4 (by simp)
    have x5:=BX7.c 5 (by simp)
    have x6:=BX7.c 6 (by simp)
    simp only [List.getElem?_cons_zero,List.getElem?_cons_succ] at x0 x1 x2 x3 x4 x5 x6
    have y0:=BY.c 0 (by simp)
    have y1:=BY.c 1 (by simp)
    have y2:=BY.c 2 (by simp)
    have y3:=BY.c 3 (by simp)
    have y4:=BY.c 4 (by simp)
    have y5:=BY.c 5 (by simp)
    have y6:=BY.c 6 (by simp)
    simp only [List.getElem?_cons_zero,List.getElem?_cons_succ] at y0 y1 y2 y3 y4 y5 y6
    clear hb7 QOH by_ BX7 BY zq SQ hce hcp SE eqb
    go_wp2_with (first | (go_at_call 8;refine SM9.out.mono ?_;rintro e w' ⟨rfl,rfl⟩) | (go_at_call 14;refine SQH.out.mono ?_;rintro e w8 ⟨rfl,hb8⟩;have HB8:=hidE hb8;clear hb8))
    go_ret
    exact ⟨rfl,B7.out.trans (HB8.out.mono B7.out.size)⟩
   | ok q2 =>
    have PA:=parse_any s w5 T5
    unfold ParseR at PA
    rw [hp] at PA
    simp only at PA
    have PAH:=hidE PA
    have QO:=hidE (fun w => qof_any s w)
    have HP:=hidE hp
    have hck : chkQ q2 = 0:=chk_parsed hp
    have hn4:=(okQ_of hck).n4
    have SM9:=hidE (fun w => same_nil 0 w)
    clear PA hp T5 hck
    go_wp2_with fail
    refine PAH.out.mono ?_
    rintro r w6 ⟨hb6,vxa,vxw,vxb,psx,rfl,hqx⟩
    obtain ⟨ax1,nx1,mx1,rfl⟩ : ∃ a n c,vxa = .slice a n c:=by obtain ⟨a,c,e⟩:=owns_shapeE hqx.row;exact ⟨_,_,_,e⟩
    obtain ⟨ax2,nx2,mx2,rfl⟩ : ∃ a n c,vxw = .slice a n c:=by obtain ⟨a,c,e⟩:=rowG_shape (optR_nod hqx.wh).1;exact ⟨_,_,_,e⟩
    obtain ⟨ax3,nx3,mx3,rfl⟩ : ∃ a n c,vxb = .slice a n c:=by obtain ⟨a,c,e⟩:=rowG_shape (optR_nod hqx.by_).1;exact ⟨_,_,_,e⟩
    unfold qyV
    have bx:=below_alloc w6 (.cells #[.slice ax1 nx1 mx1,.slice ax2 nx2 mx2,.slice ax3 nx3 mx3,.int .i64 q2.size,.int .i64 q2.slide,.int .i64 q2.delay,.int .i64 q2.late] 25)
    have BX:=blk_alloc w6 [.slice ax1 nx1 mx1,.slice ax2 nx2 mx2,.slice ax3 nx3 mx3,.int .i64 q2.size,.int .i64 q2.slide,.int .i64 q2.delay,.int .i64 q2.late] 25
    have B6:=hidE ((B5.out.trans (hb6.mono B5.out.size)).trans (bx.mono (B5.out.trans (hb6.mono B5.out.size)).size))
    have QX:=hidE (qyO_below hqx bx)
    have QOW:=QO.out (w6.alloc (.cells #[.slice ax1 nx1 mx1,.slice ax2 nx2 mx2,.slice ax3 nx3 mx3,.int .i64 q2.size,.int .i64 q2.slide,.int .i64 q2.delay,.int .i64 q2.late] 25))
    unfold QofR at QOW
    rw [HP.out] at QOW
    simp only at QOW
    have QOH:=hidE QOW
    have lx : w6.heap.size < (w6.alloc (.cells #[.slice ax1 nx1 mx1,.slice ax2 nx2 mx2,.slice ax3 nx3 mx3,.int .i64 q2.size,.int .i64 q2.slide,.int .i64 q2.delay,.int .i64 q2.late] 25)).heap.size:=by simp
    have BXH:=hidE BX
    clear hb6 hqx PAH bx BX QOW QO B5
    go_wp2_with fail
    refine QOH.out.mono ?_
    rintro r w7 ⟨hb7,vya,vyw,vyb,psy,rfl,hqy⟩
    obtain ⟨ay1,ny1,my1,rfl⟩ : ∃ a n c,vya = .slice a n c:=by obtain ⟨a,c,e⟩:=owns_shapeE hqy.row;exact ⟨_,_,_,e⟩
    obtain ⟨ay2,ny2,my2,rfl⟩ : ∃ a n c,vyw = .slice a n c:=by obtain ⟨a,c,e⟩:=rowG_shape (optR_nod hqy.wh).1;exact ⟨_,_,_,e⟩
    obtain ⟨ay3,ny3,my3,rfl⟩ : ∃ a n c,vyb = .slice a n c:=by obtain ⟨a,c,e⟩:=rowG_shape (optR_nod hqy.by_).1;exact ⟨_,_,_,e⟩
    unfold qyV
    have by_:=below_alloc w7 (.cells #[.slice ay1 ny1 my1,.slice ay2 ny2 my2,.slice ay3 ny3 my3,.int .i64 q2.size,.int .i64 q2.slide,.int .i64 q2.delay,.int .i64 q2.late] 25)
    have BY:=blk_alloc w7 [.slice ay1 ny1 my1,.slice ay2 ny2 my2,.slice ay3 ny3 my3,.int .i64 q2.size,.int .i64 q2.slide,.int .i64 q2.delay,.int .i64 q2.late] 25
    have BX7:=blk_below (blk_below BXH.out hb7 lx) by_ (by have:=hb7.size;omega)
    have B7:=hidE ((B6.out.trans (hb7.mono B6.out.size)).trans (by_.mono (B6.out.trans (hb7.mono B6.out.size)).size))
    have SQ:=query_same (w7.alloc (.cells #[.slice ay1 ny1 my1,.slice ay2 ny2 my2,.slice ay3 ny3 my3,.int .i64 q2.size,.int .i64 q2.slide,.int .i64 q2.delay,.int .i64 q2.late] 25)) q2 _ _ _ _ _ _ psx psy (qyO_G (qyO_below (qyO_below QX.out hb7) by_)) (qyO_G (qyO_below hqy by_)) (by omega)
    unfold qyV at SQ
    have SQH:=hidE SQ
    have x0:=BX7.c 0 (by simp)
    have x1:=BX7.c 1 (by simp)
    have x2:=BX7.c 2 (by simp)
    have x3:=BX7.c 3 (by simp)
    have x4:=BX7.c 4 (by simp)
    have x5:=BX7.c 5 (by simp)
    have x6:=BX7.c 6 (by simp)
    simp only [List.getElem?_cons_zero,List.getElem?_cons_succ] at x0 x1 x2 x3 x4 x5 x6
    have y0:=BY.c 0 (by simp)
    have y1:=BY.c 1 (by simp)
    have y2:=BY.c 2 (by simp)
    have y3:=BY.c 3 (by simp)
    have y4:=BY.c 4 (by simp)
    have y5:=BY.c 5 (by simp)
    have y6:=BY.c 6 (by simp)
    simp only [List.getElem?_cons_zero,List.getElem?_cons_succ] at y0 y1 y2 y3 y4 y5 y6
    clear hb7 hqy QOH by_ BX7 BY SQ QX
    go_wp2_with (first | (go_at_call 8;refine (SM9.out _).mono ?_;rintro e w' ⟨rfl,rfl⟩) | (go_at_call 14;refine SQH.out.mono ?_;rintro e w8 ⟨rfl,hb8⟩;have HB8:=hidE hb8;clear hb8))
    go_ret
    exact ⟨rfl,B7.out.trans (HB8.out.mono B7.out.size)⟩
  ·have hc0 : (c == 0) = false:=by simpa using hc
   rw [errC_ne hc] at CK SM
   have kn:=kin_some w4
   obtain ⟨kc,kf⟩:=kin_rules w4
   have KP : Hid (∀ p : Kin w4,Below w4.heap.size w4 p.w):=fun p => p.h
   have HBw : Hid (Below w4.heap.size w4 w4):=Below.refl _ _
   go_wp2_with fail
   refine wp_region_kin HBw (by kernel_rfl) (by kernel_rfl) ?_
   repeat (go_big_quiet_step ((first | (go_at_call 8;exact kin_same (SM.out _)) | (go_at_call 9;exact kin_of (CK.out _ (KP.out _))))))
   refine wpQuiet_nil ?_
   rintro _ ⟨pk,rfl⟩
   have hb5:=pk.h
   generalize pk.w = w5 at *
   have B5:=hidE (B4.out.trans (hb5.mono B4.out.size))
   have T5:=T4.out.below hb5
   clear kc kf kn HBw KP pk CK SM hb5 G4 B4 z0 z1 z2 z3 z4 z5 z6
   cases hp : parseQ s with
   | error c9 =>
    have PA:=parse_any s w5 T5
    unfold ParseR at PA
    rw [hp] at PA
    simp only at PA
    have PAH:=hidE PA
    have QO:=hidE (fun w => qof_any s w)
    have HP:=hidE hp
    have SE:=fun (c : Int) (hc : 0 ≤ c) w => same_errC c c w hc
    clear PA hp T5
    go_wp2_with fail
    refine PAH.out.mono ?_
    rintro r w6 ⟨hb6,rfl,hce⟩
    unfold qzV
    have bx:=below_alloc w6 (.cells #[.slice none 0 0,.slice none 0 0,.slice none 0 0,.int .i64 0,.int .i64 0,.int .i64 0,.int .i64 0] 25)
    have BX:=blk_alloc w6 [.slice none 0 0,.slice none 0 0,.slice none 0 0,.int .i64 0,.int .i64 0,.int .i64 0,.int .i64 0] 25
    have B6:=hidE ((B5.out.trans (hb6.mono B5.out.size)).trans (bx.mono (B5.out.trans (hb6.mono B5.out.size)).size))
    have QOW:=QO.out (w6.alloc (.cells #[.slice none 0 0,.slice none 0 0,.slice none 0 0,.int .i64 0,.int .i64 0,.int .i64 0,.int .i64 0] 25))
    unfold QofR at QOW
    rw [HP.out] at QOW
    simp only at QOW
    have QOH:=hidE QOW
    have lx : w6.heap.size < (w6.alloc (.cells #[.slice none 0 0,.slice none 0 0,.slice none 0 0,.int .i64 0,.int .i64 0,.int .i64 0,.int .i64 0] 25)).heap.size:=by simp
    have BXH:=hidE BX
    clear hb6 PAH bx BX QOW QO B5
    go_wp2_with fail
    refine QOH.out.mono ?_
    rintro r w7 ⟨hb7,rfl,hcp⟩
    unfold qzV
    have by_:=below_alloc w7 (.cells #[.slice none 0 0,.slice none 0 0,.slice none 0 0,.int .i64 0,.int .i64 0,.int .i64 0,.int .i64 0] 25)
    have BY:=blk_alloc w7 [.slice none 0 0,.slice none 0 0,.slice none 0 0,.int .i64 0,.int .i64 0,.int .i64 0,.int .i64 0] 25
    have BX7:=blk_below (blk_below BXH.out hb7 lx) by_ (by have:=hb7.size;omega)
    have B7:=hidE ((B6.out.trans (hb7.mono B6.out.size)).trans (by_.mono (B6.out.trans (hb7.mono B6.out.size)).size))
    have SM9:=hidE (SE c9 (by omega) (w7.alloc (.cells #[.slice none 0 0,.slice none 0 0,.slice none 0 0,.int .i64 0,.int .i64 0,.int .i64 0,.int .i64 0] 25)))
    have eqb : (c9 == c9) = true:=by simp
    rw [eqb] at SM9
    have zq : QyG (w7.alloc (.cells #[.slice none 0 0,.slice none 0 0,.slice none 0 0,.int .i64 0,.int .i64 0,.int .i64 0,.int .i64 0] 25)) (.slice none 0 0) (.slice none 0 0) (.slice none 0 0) ⟨[],[],[],0,0,0,0⟩ []:=⟨⟨⟨rfl,.inl ⟨⟨_,_,rfl⟩,rfl⟩⟩,fun p hp => by cases hp⟩,rfl,⟨rfl,.inl ⟨⟨_,_,rfl⟩,rfl⟩⟩,⟨rfl,.inl ⟨⟨_,_,rfl⟩,rfl⟩⟩,by simp,by simp⟩
    have SQ:=query_same _ ⟨[],[],[],0,0,0,0⟩ _ _ _ _ _ _ [] [] zq zq (by simp)
    unfold qyV at SQ
    have SQH:=hidE SQ
    have x0:=BX7.c 0 (by simp)
    have x1:=BX7.c 1 (by simp)
    have x2:=BX7.c 2 (by simp)
    have x3:=BX7.c 3 (by simp)
    have x4:=BX7.c 4 (by simp)
    have x5:=BX7.c 5 (by simp)
    have x6:=BX7.c 6 (by simp)
    simp only [List.getElem?_cons_zero,List.getElem?_cons_succ] at x0 x1 x2 x3 x4 x5 x6
    have y0:=BY.c 0 (by simp)
    have y1:=BY.c 1 (by simp)
    have y2:=BY.c 2 (by simp)
    have y3:=BY.c 3 (by simp)
    have y4:=BY.c 4 (by simp)
    have y5:=BY.c 5 (by simp)
    have y6:=BY.c 6 (by simp)
    simp only [List.getElem?_cons_zero,List.getElem?_cons_succ] at y0 y1 y2 y3 y4 y5 y6
    clear hb7 QOH by_ BX7 BY zq SQ hce hcp SE eqb
    go_wp2_with (first | (go_at_call 8;refine SM9.out.mono ?_;rintro e w' ⟨rfl,rfl⟩) | (go_at_call 14;refine SQH.out.mono ?_;rintro e w8 ⟨rfl,hb8⟩;have HB8:=hidE hb8;clear hb8))
    go_ret
    exact ⟨rfl,B7.out.trans (HB8.out.mono B7.out.size)⟩
   | ok q2 =>
    have PA:=parse_any s w5 T5
    unfold ParseR at PA
    rw [hp] at PA
    simp only at PA
    have PAH:=hidE PA
    have QO:=hidE (fun w => qof_any s w)
    have HP:=hidE hp
    have hck : chkQ q2 = 0:=chk_parsed hp
    have hn4:=(okQ_of hck).n4
    have SM9:=hidE (fun w => same_nil 0 w)
    clear PA hp T5 hck
    go_wp2_with fail
    refine PAH.out.mono ?_
    rintro r w6 ⟨hb6,vxa,vxw,vxb,psx,rfl,hqx⟩
    obtain ⟨ax1,nx1,mx1,rfl⟩ : ∃ a n c,vxa = .slice a n c:=by obtain ⟨a,c,e⟩:=owns_shapeE hqx.row;exact ⟨_,_,_,e⟩
    obtain ⟨ax2,nx2,mx2,rfl⟩ : ∃ a n c,vxw = .slice a n c:=by obtain ⟨a,c,e⟩:=rowG_shape (optR_nod hqx.wh).1;exact ⟨_,_,_,e⟩
    obtain ⟨ax3,nx3,mx3,rfl⟩ : ∃ a n c,vxb = .slice a n c:=by obtain ⟨a,c,e⟩:=rowG_shape (optR_nod hqx.by_).1;exact ⟨_,_,_,e⟩
    unfold qyV
    have bx:=below_alloc w6 (.cells #[.slice ax1 nx1 mx1,.slice ax2 nx2 mx2,.slice ax3 nx3 mx3,.int .i64 q2.size,.int .i64 q2.slide,.int .i64 q2.delay,.int .i64 q2.late] 25)
    have BX:=blk_alloc w6 [.slice ax1 nx1 mx1,.slice ax2 nx2 mx2,.slice ax3 nx3 mx3,.int .i64 q2.size,.int .i64 q2.slide,.int .i64 q2.delay,.int .i64 q2.late] 25
    have B6:=hidE ((B5.out.trans (hb6.mono B5.out.size)).trans (bx.mono (B5.out.trans (hb6.mono B5.out.size)).size))
    have QX:=hidE (qyO_below hqx bx)
    have QOW:=QO.out (w6.alloc (.cells #[.slice ax1 nx1 mx1,.slice ax2 nx2 mx2,.slice ax3 nx3 mx3,.int .i64 q2.size,.int .i64 q2.slide,.int .i64 q2.delay,.int .i64 q2.late] 25))
    unfold QofR at QOW
    rw [HP.out] at QOW
    simp only at QOW
    have QOH:=hidE QOW
    have lx : w6.heap.size < (w6.alloc (.cells #[.slice ax1 nx1 mx1,.slice ax2 nx2 mx2,.slice ax3 nx3 mx3,.int .i64 q2.size,.int .i64 q2.slide,.int .i64 q2.delay,.int .i64 q2.late] 25)).heap.size:=by simp
    have BXH:=hidE BX
    clear hb6 hqx PAH bx BX QOW QO B5
    go_wp2_with fail
    refine QOH.out.mono ?_
    rintro r w7 ⟨hb7,vya,vyw,vyb,psy,rfl,hqy⟩
    obtain ⟨ay1,ny1,my1,rfl⟩ : ∃ a n c,vya = .slice a n c:=by obtain ⟨a,c,e⟩:=owns_shapeE hqy.row;exact ⟨_,_,_,e⟩
    obtain ⟨ay2,ny2,my2,rfl⟩ : ∃ a n c,vyw = .slice a n c:=by obtain ⟨a,c,e⟩:=rowG_shape (optR_nod hqy.wh).1;exact ⟨_,_,_,e⟩
    obtain ⟨ay3,ny3,my3,rfl⟩ : ∃ a n c,vyb = .slice a n c:=by obtain ⟨a,c,e⟩:=rowG_shape (optR_nod hqy.by_).1;exact ⟨_,_,_,e⟩
    unfold qyV
    have by_:=below_alloc w7 (.cells #[.slice ay1 ny1 my1,.slice ay2 ny2 my2,.slice ay3 ny3 my3,.int .i64 q2.size,.int .i64 q2.slide,.int .i64 q2.delay,.int .i64 q2.late] 25)
    have BY:=blk_alloc w7 [.slice ay1 ny1 my1,.slice ay2 ny2 my2,.slice ay3 ny3 my3,.int .i64 q2.size,.int .i64 q2.slide,.int .i64 q2.delay,.int .i64 q2.late] 25
    have BX7:=blk_below (blk_below BXH.out hb7 lx) by_ (by have:=hb7.size;omega)
    have B7:=hidE ((B6.out.trans (hb7.mono B6.out.size)).trans (by_.mono (B6.out.trans (hb7.mono B6.out.size)).size))
    have SQ:=query_same (w7.alloc (.cells #[.slice ay1 ny1 my1,.slice ay2 ny2 my2,.slice ay3 ny3 my3,.int .i64 q2.size,.int .i64 q2.slide,.int .i64 q2.delay,.int .i64 q2.late] 25)) q2 _ _ _ _ _ _ psx psy (qyO_G (qyO_below (qyO_below QX.out hb7) by_)) (qyO_G (qyO_below hqy by_)) (by omega)
    unfold qyV at SQ
    have SQH:=hidE SQ
    have x0:=BX7.c 0 (by simp)
    have x1:=BX7.c 1 (by simp)
    have x2:=BX7.c 2 (by simp)
    have x3:=BX7.c 3 (by simp)
    have x4:=BX7.c 4 (by simp)
    have x5:=BX7.c 5 (by simp)
    have x6:=BX7.c 6 (by simp)
    simp only [List.getElem?_cons_zero,List.getElem?_cons_succ] at x0 x1 x2 x3 x4 x5 x6
    have y0:=BY.c 0 (by simp)
    have y1:=BY.c 1 (by simp)
    have y2:=BY.c 2 (by simp)
    have y3:=BY.c 3 (by simp)
    have y4:=BY.c 4 (by simp)
    have y5:=BY.c 5 (by simp)
    have y6:=BY.c 6 (by simp)
    simp only [List.getElem?_cons_zero,List.getElem?_cons_succ] at y0 y1 y2 y3 y4 y5 y6
    clear hb7 hqy QOH by_ BX7 BY SQ QX
    go_wp2_with (first | (go_at_call 8;refine (SM9.out _).mono ?_;rintro e w' ⟨rfl,rfl⟩) | (go_at_call 14;refine SQH.out.mono ?_;rintro e w8 ⟨rfl,hb8⟩;have HB8:=hidE hb8;clear hb8))
    go_ret
    exact ⟨rfl,B7.out.trans (HB8.out.mono B7.out.size)⟩
end Go.Proofs.YteaanpdckkmjoaaGreatDoor
namespace Go.Proofs.YteaanpdckkmjoaaGreatDoor
open Go.ChangeShapes Go.WideShapes Go.ChangeAt Go.RowKit Go.Joins
theorem own : ownKnob Tryz.prog.godebug = none:=by kernel_rfl
theorem laidOut : laidOutB Tryz.prog = true:=by kernel_rfl
theorem cellsInt : Tryz.prog.cellsOf 3 = 1:=by kernel_rfl
theorem cellsValue : Tryz.prog.cellsOf 89 = 2:=by kernel_rfl
theorem again {H : Type} {enc : TypeId × Value → H} {t : TypeId} (hr : Tryz.prog.readableRec t = true) (hrow : t < Tryz.prog.types.size) {W W' : World} {v : Value} {d : DataW H} {ps : List MemPlace}
  (h : DataW.Trod enc Tryz.prog W 0 (fun _ => true) true t v d ps) (hb : Below W.heap.size W W') :
  DataW.Trod enc Tryz.prog W' 0 (fun b => decide (b < W.heap.size)) true t v d ps :=
 Below.trod laidOut hr hrow h hb (by obtain ⟨m,hm⟩:=h;exact DataW.trod_lt m _ _ _ hm)
theorem one_int {H : Type} {enc : TypeId × Value → H} {W : World} {sp : Nat → Bool} {hd : Bool} {fuel : Nat} {c : Value} {x : DataW H × List MemPlace}
  (h : DataW.trod enc Tryz.prog W 0 sp hd fuel 3 [c] = some x) : ∃ n : Int,c = .int .i64 n:=by
 obtain ⟨a,e,-,-⟩:=DataW.trod_int Tryz.underlying3 h
 simp at e
 exact ⟨a,e⟩
end Go.Proofs.YteaanpdckkmjoaaGreatDoor
namespace Go.Proofs.YteaanpdckkmjoaaGreatDoor
open Go.ChangeShapes Go.WideShapes Go.ChangeAt Go.RowKit
theorem list6 {α : Type} {cs : List α} (h : cs.length = 6) : ∃ a b c d e f,cs = [a,b,c,d,e,f]:=by
 match cs,h with
 | [a,b,c,d,e,f],_ => exact ⟨a,b,c,d,e,f,rfl⟩
theorem list7 {α : Type} {cs : List α} (h : cs.length = 7) : ∃ a b c d e f g,cs = [a,b,c,d,e,f,g]:=by
 match cs,h with
 | [a,b,c,d,e,f,g],_ => exact ⟨a,b,c,d,e,f,g,rfl⟩
theorem list5 {α : Type} {cs : List α} (h : cs.length = 5) : ∃ a b c d e,cs = [a,b,c,d,e]:=by
 match cs,h with
 | [a,b,c,d,e],_ => exact ⟨a,b,c,d,e,rfl⟩
end Go.Proofs.YteaanpdckkmjoaaGreatDoor
namespace Go.Proofs.YteaanpdckkmjoaaGreatDoor
open Go.ChangeShapes Go.WideShapes Go.ChangeAt Go.RowKit Go.Joins Go.Deep
theorem cellsNode : Tryz.prog.cellsOf 91 = 6:=by kernel_rfl
theorem two_int {H : Type} {enc : TypeId × Value → H} {W : World} {sp : Nat → Bool} {hd : Bool} {fuel : Nat} {c d : Value} {x : DataW H × List MemPlace}
  (h : DataW.trod enc Tryz.prog W 0 sp hd fuel 89 [c,d] = some x) : ∃ m n : Int,c = .int .i64 m ∧ d = .int .i64 n:=by
 obtain ⟨y0,y1,n,-,-,h0,h1⟩:=trod_struct2 Tryz.underlying89 h
 rw [cellsInt] at h0 h1
 obtain ⟨a,ea⟩:=one_int h0
 obtain ⟨b,eb⟩:=one_int h1
 exact ⟨a,b,ea,eb⟩
theorem open_node {H : Type} {enc : TypeId × Value → H} {W : World} {sp : Nat → Bool} {hd : Bool} {fuel : Nat} {cs : List Value} {x : DataW H × List MemPlace}
  (h : DataW.trod enc Tryz.prog W 0 sp hd fuel 91 cs = some x) : ∃ n : Nd,cs = cellsN n:=by
 obtain ⟨xs,k,-,-,hlen,hxl,hf⟩:=DataW.trod_struct Tryz.underlying91 h
 rw [cellsNode] at hlen
 obtain ⟨c0,c1,c2,c3,c4,c5,rfl⟩:=list6 hlen
 obtain ⟨y0,y1,y2,y3,y4,rfl⟩:=list5 hxl
 have g0 : DataW.trod enc Tryz.prog W 0 sp hd k 3 (List.take (Tryz.prog.cellsOf 3) (List.drop 0 [c0,c1,c2,c3,c4,c5])) = some y0:=hf 0 _ rfl
 have g1 : DataW.trod enc Tryz.prog W 0 sp hd k 3 (List.take (Tryz.prog.cellsOf 3) (List.drop 1 [c0,c1,c2,c3,c4,c5])) = some y1:=hf 1 _ rfl
 have g2 : DataW.trod enc Tryz.prog W 0 sp hd k 3 (List.take (Tryz.prog.cellsOf 3) (List.drop 2 [c0,c1,c2,c3,c4,c5])) = some y2:=hf 2 _ rfl
 have g3 : DataW.trod enc Tryz.prog W 0 sp hd k 3 (List.take (Tryz.prog.cellsOf 3) (List.drop 3 [c0,c1,c2,c3,c4,c5])) = some y3:=hf 3 _ rfl
 have g4 : DataW.trod enc Tryz.prog W 0 sp hd k 89 (List.take (Tryz.prog.cellsOf 89) (List.drop 4 [c0,c1,c2,c3,c4,c5])) = some y4:=hf 4 _ rfl
 rw [cellsInt] at g0 g1 g2 g3
 rw [cellsValue] at g4
 obtain ⟨n0,e0⟩:=one_int g0
 obtain ⟨n1,e1⟩:=one_int g1
 obtain ⟨n2,e2⟩:=one_int g2
 obtain ⟨n3,e3⟩:=one_int g3
 obtain ⟨n4,n5,e4,e5⟩:=two_int g4
 exact ⟨⟨n0,n1,n2,n3,n4,n5⟩,by rw [e0,e1,e2,e3,e4,e5];rfl⟩
end Go.Proofs.YteaanpdckkmjoaaGreatDoor
namespace Go.Proofs.YteaanpdckkmjoaaGreatDoor
open Go.ChangeShapes Go.WideShapes Go.ChangeAt Go.RowKit
open Go.Joins Go.Deep
section
variable {α : Type} {S : Nat} {f : α → List Value}
theorem open_rowP {H : Type} {enc : TypeId × Value → H} {W : World} {v : Value} {x : DataW H × List MemPlace} {ts te : TypeId} {sp : Nat → Bool} {hd : Bool} {fuel : Nat} {Pz : α → Prop} (hf : ∀ a,(f a).length = S) (hS : 0 < S)
  (hu : Tryz.prog.underlying ts = some (.slice te)) (hc : Tryz.prog.cellsOf te = S) (dflt : α)
  (open1 : ∀ {fuel : Nat} {cs : List Value} {x : DataW H × List MemPlace},DataW.trod enc Tryz.prog W 0 sp hd fuel te cs = some x → ∃ n : α,cs = f n ∧ Pz n)
  (h : DataW.trod enc Tryz.prog W 0 sp hd fuel ts [v] = some x) :
  ∃ l : List α,RowG W v S l.length (rowOf f l) ∧ l.length ≤ maxLen ∧ ∀ a ∈ l,Pz a:=by
 have nilcase : ∀ (ao : Option Addr) (cp : Nat),∃ l : List α,RowG W (.slice ao 0 cp) S l.length (rowOf f l) ∧ l.length ≤ maxLen ∧ ∀ a ∈ l,Pz a:=fun ao cp =>
  ⟨[],⟨by simp [rowOf],.inl ⟨⟨_,_,rfl⟩,rfl⟩⟩,Nat.zero_le _,fun a ha => by simp at ha⟩
 rcases open_slice hu h with ⟨hc',-⟩ | ⟨a,ln,cp,m,n,D,Pl,hc',-,hl,hm,hmm,-,hx⟩
 ·simp only [List.cons.injEq,and_true] at hc'
  subst hc'
  exact nilcase _ _
 ·simp only [List.cons.injEq,and_true] at hc'
  subst hc'
  have hlm : ln ≤ m:=by rw [hmm];split <;> omega
  rw [hc] at hx
  have each : ∀ i,i < ln → ∃ nd : α,(∀ j,j < S → W.cell? (a.add (i * S + j)) = (f nd)[j]?) ∧ Pz nd:=by
   intro i hi
   obtain ⟨cs',h1,h2⟩:=hx i (by omega)
   obtain ⟨nd,rfl,hp⟩:=open1 h2
   obtain ⟨-,hlen,hcell⟩:=World.cells?_some h1
   refine ⟨nd,fun j hj => ?_,hp⟩
   have:=hcell j hj
   rw [← this,add_add]
  by_cases h0 : ln = 0
  ·subst h0
   exact nilcase _ _
  ·obtain ⟨g,off,spot⟩:=a
   have hspot : spot = none:=by
    obtain ⟨nd,hnd,-⟩:=each 0 (by omega)
    have h9:=hnd 0 hS
    have hlt : 0 < (f nd).length:=by rw [hf];exact hS
    rw [List.getElem?_eq_getElem hlt] at h9
    exact (by simpa [Addr.add] using World.cell?_spot h9)
   subst hspot
   have each2 : ∀ i,∃ nd : α,i < ln → (∀ j,j < S → W.cell? ⟨g,off + (i * S + j),none⟩ = (f nd)[j]?) ∧ Pz nd:=by
    intro i
    by_cases hi : i < ln
    ·obtain ⟨nd,hnd,hp⟩:=each i hi
     exact ⟨nd,fun _ => ⟨fun j hj => by rw [← hnd j hj,add_plain],hp⟩⟩
    ·exact ⟨dflt,fun h => absurd h hi⟩
   obtain ⟨F,hF⟩:=Classical.axiomOfChoice each2
   have hg : g < W.heap.size:=by
    obtain ⟨cs',h1,-⟩:=hx 0 (by omega)
    have:=World.cells?_block h1 (by omega)
    simpa [Addr.add] using this
   have hlen : ((List.range ln).map F).length = ln:=by simp
   refine ⟨(List.range ln).map F,⟨rowOf_len hf _,.inr ⟨g,off,cp,by rw [hlen],by rw [hlen];omega,by omega,hg,fun j hj => ?_⟩⟩,by rw [hlen];omega,fun a ha => ?_⟩
   ·rw [hlen] at hj
    have hi : j / S < ln:=(Nat.div_lt_iff_lt_mul hS).2 hj
    have hr : j % S < S:=Nat.mod_lt _ hS
    have e : j / S * S + j % S = j:=by rw [Nat.mul_comm];exact Nat.div_add_mod j S
    have h1:=(hF (j / S) hi).1 (j % S) hr
    rw [e] at h1
    rw [h1,← rowOf_at hf ((List.range ln).map F) (j / S) (j % S) (F (j / S)) (by simp [hi]) hr,e]
   ·obtain ⟨i,hi,rfl⟩:=List.mem_map.1 ha
    exact (hF i (by simpa using hi)).2
end
end Go.Proofs.YteaanpdckkmjoaaGreatDoor
namespace Go.Proofs.YteaanpdckkmjoaaGreatDoor
open Go.ChangeShapes Go.WideShapes Go.ChangeAt Go.RowKit Go.Joins Go.Deep
theorem cellsAgg2 : Tryz.prog.cellsOf 46 = 2:=by kernel_rfl
theorem cellsNodes1 : Tryz.prog.cellsOf 23 = 1:=by kernel_rfl
theorem cellsAggs1 : Tryz.prog.cellsOf 22 = 1:=by kernel_rfl
theorem cellsQuery7 : Tryz.prog.cellsOf 25 = 7:=by kernel_rfl
theorem open_nodesT {H : Type} {enc : TypeId × Value → H} {W : World} {sp : Nat → Bool} {hd : Bool} {fuel : Nat} {v : Value} {x : DataW H × List MemPlace}
  (h : DataW.trod enc Tryz.prog W 0 sp hd fuel 23 [v] = some x) : ∃ l : List Nd,NodG W v l:=by
 obtain ⟨l,hr,-,-⟩:=open_rowP (f:=cellsN) (S:=6) (Pz:=fun _ => True) (fun _ => rfl) (by decide) Tryz.underlying23 cellsNode ⟨0,0,0,0,0,0⟩ (fun h => by
  obtain ⟨n,e⟩:=open_node h
  exact ⟨n,e,trivial⟩) h
 exact ⟨l,hr⟩
theorem open_aggT {H : Type} {enc : TypeId × Value → H} {W : World} {sp : Nat → Bool} {hd : Bool} {fuel : Nat} {cs : List Value} {x : DataW H × List MemPlace}
  (h : DataW.trod enc Tryz.prog W 0 sp hd fuel 46 cs = some x) : ∃ p : AgQ × Value,cs = cellsAg p ∧ NodG W p.2 p.1.of:=by
 obtain ⟨xs,k,-,-,hlen,hxl,hf⟩:=DataW.trod_struct Tryz.underlying46 h
 rw [cellsAgg2] at hlen
 obtain ⟨c0,c1,rfl⟩ : ∃ a b,cs = [a,b]:=by
  match cs,hlen with
  | [a,b],_ => exact ⟨a,b,rfl⟩
 obtain ⟨y0,y1,rfl⟩ : ∃ a b,xs = [a,b]:=by
  match xs,hxl with
  | [a,b],_ => exact ⟨a,b,rfl⟩
 have g0 : DataW.trod enc Tryz.prog W 0 sp hd k 3 (List.take (Tryz.prog.cellsOf 3) (List.drop 0 [c0,c1])) = some y0:=hf 0 _ rfl
 have g1 : DataW.trod enc Tryz.prog W 0 sp hd k 23 (List.take (Tryz.prog.cellsOf 23) (List.drop 1 [c0,c1])) = some y1:=hf 1 _ rfl
 rw [cellsInt] at g0
 rw [cellsNodes1] at g1
 obtain ⟨n0,e0⟩:=one_int g0
 obtain ⟨l,hl⟩:=open_nodesT g1
 exact ⟨(⟨n0,l⟩,c1),by rw [e0];rfl,hl⟩
theorem open_query {H : Type} {enc : TypeId × Value → H} {W : World} {base : Nat} {v : Value} {d : DataW H} {p : List MemPlace}
  (hv : Value.okWide Tryz.prog W .any base 25 v) (h : DataW.Trod enc Tryz.prog W 0 (fun _ => true) true 25 v d p) :
  ∃ va vw vb q ps,v = qyV va vw vb q ∧ QyW W va vw vb q ps:=by
 obtain ⟨cs,rfl,hsz⟩:=okWide_struct Tryz.underlying25 hv
 rw [cellsQuery7] at hsz
 obtain ⟨c0,c1,c2,c3,c4,c5,c6,hcs⟩:=list7 (by simpa using hsz : cs.toList.length = 7)
 obtain rfl : cs = #[c0,c1,c2,c3,c4,c5,c6]:=by cases cs;simp_all
 obtain ⟨fuel,hf⟩:=h
 obtain ⟨xs,k,-,-,-,hxl,hf⟩:=DataW.trod_struct Tryz.underlying25 hf
 obtain ⟨y0,y1,y2,y3,y4,y5,y6,rfl⟩:=list7 hxl
 have g0 : DataW.trod enc Tryz.prog W 0 (fun _ => true) true k 22 (List.take (Tryz.prog.cellsOf 22) (List.drop 0 [c0,c1,c2,c3,c4,c5,c6])) = some y0:=hf 0 _ rfl
 have g1 : DataW.trod enc Tryz.prog W 0 (fun _ => true) true k 23 (List.take (Tryz.prog.cellsOf 23) (List.drop 1 [c0,c1,c2,c3,c4,c5,c6])) = some y1:=hf 1 _ rfl
 have g2 : DataW.trod enc Tryz.prog W 0 (fun _ => true) true k 23 (List.take (Tryz.prog.cellsOf 23) (List.drop 2 [c0,c1,c2,c3,c4,c5,c6])) = some y2:=hf 2 _ rfl
 have g3 : DataW.trod enc Tryz.prog W 0 (fun _ => true) true k 3 (List.take (Tryz.prog.cellsOf 3) (List.drop 3 [c0,c1,c2,c3,c4,c5,c6])) = some y3:=hf 3 _ rfl
 have g4 : DataW.trod enc Tryz.prog W 0 (fun _ => true) true k 3 (List.take (Tryz.prog.cellsOf 3) (List.drop 4 [c0,c1,c2,c3,c4,c5,c6])) = some y4:=hf 4 _ rfl
 have g5 : DataW.trod enc Tryz.prog W 0 (fun _ => true) true k 3 (List.take (Tryz.prog.cellsOf 3) (List.drop 5 [c0,c1,c2,c3,c4,c5,c6])) = some y5:=hf 5 _ rfl
 have g6 : DataW.trod enc Tryz.prog W 0 (fun _ => true) true k 3 (List.take (Tryz.prog.cellsOf 3) (List.drop 6 [c0,c1,c2,c3,c4,c5,c6])) = some y6:=hf 6 _ rfl
 rw [cellsAggs1] at g0
 rw [cellsNodes1] at g1 g2
 rw [cellsInt] at g3 g4 g5 g6
 obtain ⟨ps,hr,-,hp⟩:=open_rowP (f:=cellsAg) (S:=2) (Pz:=fun p => NodG W p.2 p.1.of) cellsAg_len (by decide) Tryz.underlying22 cellsAgg2 (⟨0,[]⟩,.slice none 0 0) open_aggT g0
 obtain ⟨lw,hw⟩:=open_nodesT g1
 obtain ⟨lb,hb⟩:=open_nodesT g2
 obtain ⟨n3,e3⟩:=one_int g3
 obtain ⟨n4,e4⟩:=one_int g4
 obtain ⟨n5,e5⟩:=one_int g5
 obtain ⟨n6,e6⟩:=one_int g6
 refine ⟨c0,c1,c2,⟨ps.map Prod.fst,lw,lb,n3,n4,n5,n6⟩,ps,by rw [e3,e4,e5,e6];rfl,⟨hr,hp,rfl,hw,hb⟩⟩
end Go.Proofs.YteaanpdckkmjoaaGreatDoor

/- Several texts in one, each with its own head. What is proved: what the parts say. Conditions: theirs. -/
import Derived.Test.YteaanpdckkmjoaaGreatDoorRqEJ
import Derived.Test.YteaanpdckkmjoaaGreatDoorRqBJ
set_option linter.unusedVariables false
set_option linter.unusedSimpArgs false
set_option maxRecDepth 100000
set_option maxHeartbeats 8000000
namespace Go.Proofs.YteaanpdckkmjoaaGreatDoor
open Go.ChangeShapes Go.WideShapes Go.ChangeAt Go.RowKit
theorem rrows_1 (inner : Ws → PR) (g : Nat) (wv : Value) (all : Ws) (n : Nat) (ws : Ws) (d : Int) (w : World) (h : RD w g wv all n ws d 0) (m : Nat) (T : PR) (hTe : rowP inner 1 m ws = T) (hT : T ≠ .error 99)
  (H1 : ∀ ws n w,RD w g wv all n ws d 0 → inner ws ≠ .error 99 → Calls Tryz.prog 36 #[.pointer (some ⟨g,0,none⟩),.int .i64 2] w fun r w' => ∃ v,r = .returned v ∧ isSl v = true ∧ RLu w w' g wv all d (inner ws) v)
  (hS : ∀ ws y ws2,inner ws = .ok (y,ws2) → ws2.length ≤ ws.length) :
  Calls Tryz.prog 57 #[.pointer (some ⟨g,0,none⟩),.int .i64 1] w fun r w' => ∃ v,r = .returned v ∧ isSl v = true ∧ RLu w w' g wv all d T v:=by
 have hi : inner ws ≠ .error 99:=fun e => hT (by rw [← hTe];unfold rowP;rw [e])
 have L0:=hidE (H1 ws n w h hi)
 have HT:=hidE hT
 have HTE:=hidE hTe
 have HH:=hidE H1
 have HS0:=hidE hS
 clear h hTe hT H1 hS hi
 go_enter Tryz.func57,Tryz.ntmps57
 go_wp2_with fail
 refine L0.out.mono ?_
 rintro r w1 ⟨v,rfl,hs,hR⟩
 obtain ⟨a,q,c,rfl⟩:=sl_shape hs
 have K1:=hidE hR.1
 have ST1:=hidE (rowQ_start hs HTE.out hR)
 clear hs hR L0 HTE
 go_wp2_with fail
 go_loopw [5] (fun v wr => Hid (KeptB w wr (fun q => q = g)) ∧ Hid (RowQ wr g wv all d 1 inner T v)) (fun _ wr => rmeas wr g)
 case atStart => exact ⟨K1,ST1⟩
 case round =>
  clear K1 ST1
  obtain ⟨HK,HS⟩:=hrel
  rename_i v9 _
  obtain ⟨hs,hor⟩:=HS.out
  obtain ⟨a,q,c,rfl⟩:=sl_shape hs
  clear hs HS
  rcases hor with ⟨x,ws9,k9,n9,hn,hp,hr⟩ | ⟨c,n9,hc,hTe,hp⟩
  ·obtain ⟨k8,hk8⟩:=rowL_99q hr HT.out
   subst hk8
   have c3 : wr.cell? ⟨g,3,none⟩ = some (.int .i64 0):=hp.bd.c 3 (by simp)
   have NX:=rnext_any g wv all n9 ws9 d 0 wr hp
   have HN:=hidE hn
   have HP:=hidE hp
   have HR:=hidE hr
   clear hn hr
   refine five (hdW ws9) _ ?_ ?_ ?_ ?_ ?_ ?_
   ·intro c0
    have t0 : ((hdW ws9).toList == [111,114]) = true:=lt_t li_or c0
    have ho : rowOp 1 (hdW ws9) = 0:=by unfold rowOp;rw [if_pos c0];rfl
    have HTT : Hid (T = .ok (x,ws9)):=hidE (by rw [← HR.out];exact rowL_none (tkS_hd 1 (by decide) ws9 ho))
    have NX:=hidE NX
    clear hp ho c0 HR
    generalize hdW ws9 = x9 at *
    go_wp2_with fail
    refine NX.out.mono ?_
    rintro r w2 ⟨rfl,hb⟩
    have HB:=hidE hb
    clear hb NX
    go_wp2_with fail
    go_ret
    rw [HTT.out]
    exact ⟨_,rfl,rfl,keptB_trans HK.out (keptB_of_below HB.out),n9,nds_kept HN.out (keptB_of_below (bad:=fun q => q = g) HB.out) (fun k e => by omega),rd_kept HP.out HB.out⟩
   ·intro c0 c1
    have t0 : ((hdW ws9).toList == [111,114]) = false:=lt_f li_or c0
    have t1 : ((hdW ws9).toList == [97,110,100]) = true:=lt_t li_and c1
    have ho : rowOp 1 (hdW ws9) = 9:=by unfold rowOp;rw [if_neg c0,if_pos c1];rfl
    obtain ⟨ws1,hcons,htk⟩:=tkS_hd2 1 9 (by decide) ws9 ho (by decide)
    have HTT:=hidE ((rowL_some (inner:=inner) (k:=k8) (x:=x) htk).symm.trans HR.out)
    have hi : inner ws1 ≠ .error 99:=fun e => HT.out (by rw [← HTT.out,e])
    have HI:=hidE hi
    have NX:=hidE NX
    rw [hcons] at hp
    have HPC:=hidE hp
    obtain ⟨-,hn9,hd9⟩:=ws_one hp.ws0
    have hlt : n9 < 100:=by have:=hp.few;omega
    have HD:=hidE hd9
    have HL9:=hidE hn9
    clear hp ho htk c0 c1 HR hi hcons hd9 hn9
    generalize hdW ws9 = x9 at *
    go_wp2_with fail
    refine NX.out.mono ?_
    rintro r w2 ⟨rfl,hb⟩
    have H2:=rd_kept HPC.out hb
    have c1 : w2.cell? ⟨g,1,none⟩ = some (.int .i64 (n9 : Int)):=H2.bd.c 1 (by simp)
    have f1:=H2.bd.fz 1
    have B1:=blk_set H2.bd 1 (.int .i64 ((n9 : Int) + 1)) (by simp)
    have P1:=rd_set H2 1 (.int .i64 ((n9 : Int) + 1)) (n':=n9 + 1) (ws':=ws1) (d':=d) (e':=0) (by simpa using B1) (by have:=HL9.out;omega) (Int.le_refl _) (by rw [if_pos rfl];exact HD.out.symm)
    have LV:=hidE (HH.out ws1 (n9 + 1) _ P1.1 HI.out)
    have HK2:=hidE (keptB_trans (keptB_of_below (bad:=fun q => q = g) hb) P1.2)
    have HN2:=hidE (nds_kept HN.out HK2.out (fun k e => by omega))
    clear hb NX H2 B1 P1
    go_wp2_with fail
    refine LV.out.mono ?_
    rintro r w3 ⟨v3,rfl,hs3,hR3⟩
    obtain ⟨a3,q3,c3',rfl⟩:=sl_shape hs3
    have PT:=hidE (rlu_put2 g 9 (by decide) (.slice a q c) (.slice a3 q3 c3') rfl x wv all d _ _ w3 (rlu_nds hR3 HN2.out) hR3)
    have HK3:=hidE (keptB_trans HK2.out hR3.1)
    clear hs3 hR3 LV HK2 HN2
    go_wp2_with fail
    refine PT.out.mono ?_
    rintro r w4 ⟨v4,rfl,hs4,hR4⟩
    obtain ⟨a4,q4,c4',rfl⟩:=sl_shape hs4
    have RQ:=hidE (rowQ_next hs4 HTT.out hR4)
    have HK4:=hidE (keptB_trans HK3.out hR4.1)
    have HM:=hidE (rmeas_lt HS0.out HPC.out hR4)
    clear hs4 hR4 PT HK3
    go_wp2_with fail
    go_roundw
    case rel => exact ⟨keptB_trans HK.out HK4.out,RQ⟩
    case measure => exact HM.out
   ·intro c0 c1 c2
    have t0 : ((hdW ws9).toList == [111,114]) = false:=lt_f li_or c0
    have t1 : ((hdW ws9).toList == [97,110,100]) = false:=lt_f li_and c1
    have t2 : ((hdW ws9).toList == [43]) = true:=lt_t li_plus c2
    have ho : rowOp 1 (hdW ws9) = 0:=by unfold rowOp;rw [if_neg c0,if_neg c1,if_pos c2];rfl
    have HTT : Hid (T = .ok (x,ws9)):=hidE (by rw [← HR.out];exact rowL_none (tkS_hd 1 (by decide) ws9 ho))
    have NX:=hidE NX
    clear hp ho c0 c1 c2 HR
    generalize hdW ws9 = x9 at *
    go_wp2_with fail
    refine NX.out.mono ?_
    rintro r w2 ⟨rfl,hb⟩
    have HB:=hidE hb
    clear hb NX
    go_wp2_with fail
    go_ret
    rw [HTT.out]
    exact ⟨_,rfl,rfl,keptB_trans HK.out (keptB_of_below HB.out),n9,nds_kept HN.out (keptB_of_below (bad:=fun q => q = g) HB.out) (fun k e => by omega),rd_kept HP.out HB.out⟩
   ·intro c0 c1 c2 c3
    have t0 : ((hdW ws9).toList == [111,114]) = false:=lt_f li_or c0
    have t1 : ((hdW ws9).toList == [97,110,100]) = false:=lt_f li_and c1
    have t2 : ((hdW ws9).toList == [43]) = false:=lt_f li_plus c2
    have t3 : ((hdW ws9).toList == [45]) = true:=lt_t li_minus c3
    have ho : rowOp 1 (hdW ws9) = 0:=by unfold rowOp;rw [if_neg c0,if_neg c1,if_neg c2,if_pos c3];rfl
    have HTT : Hid (T = .ok (x,ws9)):=hidE (by rw [← HR.out];exact rowL_none (tkS_hd 1 (by decide) ws9 ho))
    have NX:=hidE NX
    clear hp ho c0 c1 c2 c3 HR
    generalize hdW ws9 = x9 at *
    go_wp2_with fail
    refine NX.out.mono ?_
    rintro r w2 ⟨rfl,hb⟩
    have HB:=hidE hb
    clear hb NX
    go_wp2_with fail
    go_ret
    rw [HTT.out]
    exact ⟨_,rfl,rfl,keptB_trans HK.out (keptB_of_below HB.out),n9,nds_kept HN.out (keptB_of_below (bad:=fun q => q = g) HB.out) (fun k e => by omega),rd_kept HP.out HB.out⟩
   ·intro c0 c1 c2 c3 c4
    have t0 : ((hdW ws9).toList == [111,114]) = false:=lt_f li_or c0
    have t1 : ((hdW ws9).toList == [97,110,100]) = false:=lt_f li_and c1
    have t2 : ((hdW ws9).toList == [43]) = false:=lt_f li_plus c2
    have t3 : ((hdW ws9).toList == [45]) = false:=lt_f li_minus c3
    have t4 : ((hdW ws9).toList == [42]) = true:=lt_t li_star c4
    have ho : rowOp 1 (hdW ws9) = 0:=by unfold rowOp;rw [if_neg c0,if_neg c1,if_neg c2,if_neg c3,if_pos c4];rfl
    have HTT : Hid (T = .ok (x,ws9)):=hidE (by rw [← HR.out];exact rowL_none (tkS_hd 1 (by decide) ws9 ho))
    have NX:=hidE NX
    clear hp ho c0 c1 c2 c3 c4 HR
    generalize hdW ws9 = x9 at *
    go_wp2_with fail
    refine NX.out.mono ?_
    rintro r w2 ⟨rfl,hb⟩
    have HB:=hidE hb
    clear hb NX
    go_wp2_with fail
    go_ret
    rw [HTT.out]
    exact ⟨_,rfl,rfl,keptB_trans HK.out (keptB_of_below HB.out),n9,nds_kept HN.out (keptB_of_below (bad:=fun q => q = g) HB.out) (fun k e => by omega),rd_kept HP.out HB.out⟩
   ·intro c0 c1 c2 c3 c4
    have t0 : ((hdW ws9).toList == [111,114]) = false:=lt_f li_or c0
    have t1 : ((hdW ws9).toList == [97,110,100]) = false:=lt_f li_and c1
    have t2 : ((hdW ws9).toList == [43]) = false:=lt_f li_plus c2
    have t3 : ((hdW ws9).toList == [45]) = false:=lt_f li_minus c3
    have t4 : ((hdW ws9).toList == [42]) = false:=lt_f li_star c4
    have ho : rowOp 1 (hdW ws9) = 0:=by unfold rowOp;rw [if_neg c0,if_neg c1,if_neg c2,if_neg c3,if_neg c4]
    have HTT : Hid (T = .ok (x,ws9)):=hidE (by rw [← HR.out];exact rowL_none (tkS_hd 1 (by decide) ws9 ho))
    have NX:=hidE NX
    clear hp ho c0 c1 c2 c3 c4 HR
    generalize hdW ws9 = x9 at *
    go_wp2_with fail
    refine NX.out.mono ?_
    rintro r w2 ⟨rfl,hb⟩
    have HB:=hidE hb
    clear hb NX
    go_wp2_with fail
    go_ret
    rw [HTT.out]
    exact ⟨_,rfl,rfl,keptB_trans HK.out (keptB_of_below HB.out),n9,nds_kept HN.out (keptB_of_below (bad:=fun q => q = g) HB.out) (fun k e => by omega),rd_kept HP.out HB.out⟩
  ·have c3 : wr.cell? ⟨g,3,none⟩ = some (.int .i64 c):=hp.bd.c 3 (by simp)
   have q0 : ¬ c = 0:=by omega
   have q1 : (c == 0) = false:=by simpa using q0
   have HP:=hidE hp
   have HC:=hidE hc
   have HTT:=hidE hTe
   clear hp hTe hc
   go_wp2_with fail
   go_ret
   rw [HTT.out]
   exact ⟨_,rfl,rfl,HK.out,n9,HC.out,HP.out⟩
theorem rrows_4 (inner : Ws → PR) (g : Nat) (wv : Value) (all : Ws) (n : Nat) (ws : Ws) (d : Int) (w : World) (h : RD w g wv all n ws d 0) (m : Nat) (T : PR) (hTe : rowP inner 3 m ws = T) (hT : T ≠ .error 99)
  (H1 : ∀ ws n w,RD w g wv all n ws d 0 → inner ws ≠ .error 99 → Calls Tryz.prog 36 #[.pointer (some ⟨g,0,none⟩),.int .i64 5] w fun r w' => ∃ v,r = .returned v ∧ isSl v = true ∧ RLu w w' g wv all d (inner ws) v)
  (hS : ∀ ws y ws2,inner ws = .ok (y,ws2) → ws2.length ≤ ws.length) :
  Calls Tryz.prog 57 #[.pointer (some ⟨g,0,none⟩),.int .i64 4] w fun r w' => ∃ v,r = .returned v ∧ isSl v = true ∧ RLu w w' g wv all d T v:=by
 have hi : inner ws ≠ .error 99:=fun e => hT (by rw [← hTe];unfold rowP;rw [e])
 have L0:=hidE (H1 ws n w h hi)
 have HT:=hidE hT
 have HTE:=hidE hTe
 have HH:=hidE H1
 have HS0:=hidE hS
 clear h hTe hT H1 hS hi
 go_enter Tryz.func57,Tryz.ntmps57
 go_wp2_with fail
 refine L0.out.mono ?_
 rintro r w1 ⟨v,rfl,hs,hR⟩
 obtain ⟨a,q,c,rfl⟩:=sl_shape hs
 have K1:=hidE hR.1
 have ST1:=hidE (rowQ_start hs HTE.out hR)
 clear hs hR L0 HTE
 go_wp2_with fail
 go_loopw [5] (fun v wr => Hid (KeptB w wr (fun q => q = g)) ∧ Hid (RowQ wr g wv all d 3 inner T v)) (fun _ wr => rmeas wr g)
 case atStart => exact ⟨K1,ST1⟩
 case round =>
  clear K1 ST1
  obtain ⟨HK,HS⟩:=hrel
  rename_i v9 _
  obtain ⟨hs,hor⟩:=HS.out
  obtain ⟨a,q,c,rfl⟩:=sl_shape hs
  clear hs HS
  rcases hor with ⟨x,ws9,k9,n9,hn,hp,hr⟩ | ⟨c,n9,hc,hTe,hp⟩
  ·obtain ⟨k8,hk8⟩:=rowL_99q hr HT.out
   subst hk8
   have c3 : wr.cell? ⟨g,3,none⟩ = some (.int .i64 0):=hp.bd.c 3 (by simp)
   have NX:=rnext_any g wv all n9 ws9 d 0 wr hp
   have HN:=hidE hn
   have HP:=hidE hp
   have HR:=hidE hr
   clear hn hr
   refine five (hdW ws9) _ ?_ ?_ ?_ ?_ ?_ ?_
   ·intro c0
    have t0 : ((hdW ws9).toList == [111,114]) = true:=lt_t li_or c0
    have ho : rowOp 4 (hdW ws9) = 0:=by unfold rowOp;rw [if_pos c0];rfl
    have HTT : Hid (T = .ok (x,ws9)):=hidE (by rw [← HR.out];exact rowL_none (tkS_hd 4 (by decide) ws9 ho))
    have NX:=hidE NX
    clear hp ho c0 HR
    generalize hdW ws9 = x9 at *
    go_wp2_with fail
    refine NX.out.mono ?_
    rintro r w2 ⟨rfl,hb⟩
    have HB:=hidE hb
    clear hb NX
    go_wp2_with fail
    go_ret
    rw [HTT.out]
    exact ⟨_,rfl,rfl,keptB_trans HK.out (keptB_of_below HB.out),n9,nds_kept HN.out (keptB_of_below (bad:=fun q => q = g) HB.out) (fun k e => by omega),rd_kept HP.out HB.out⟩
   ·intro c0 c1
    have t0 : ((hdW ws9).toList == [111,114]) = false:=lt_f li_or c0
    have t1 : ((hdW ws9).toList == [97,110,100]) = true:=lt_t li_and c1
    have ho : rowOp 4 (hdW ws9) = 0:=by unfold rowOp;rw [if_neg c0,if_pos c1];rfl
    have HTT : Hid (T = .ok (x,ws9)):=hidE (by rw [← HR.out];exact rowL_none (tkS_hd 4 (by decide) ws9 ho))
    have NX:=hidE NX
    clear hp ho c0 c1 HR
    generalize hdW ws9 = x9 at *
    go_wp2_with fail
    refine NX.out.mono ?_
    rintro r w2 ⟨rfl,hb⟩
    have HB:=hidE hb
    clear hb NX
    go_wp2_with fail
    go_ret
    rw [HTT.out]
    exact ⟨_,rfl,rfl,keptB_trans HK.out (keptB_of_below HB.out),n9,nds_kept HN.out (keptB_of_below (bad:=fun q => q = g) HB.out) (fun k e => by omega),rd_kept HP.out HB.out⟩
   ·intro c0 c1 c2
    have t0 : ((hdW ws9).toList == [111,114]) = false:=lt_f li_or c0
    have t1 : ((hdW ws9).toList == [97,110,100]) = false:=lt_f li_and c1
    have t2 : ((hdW ws9).toList == [43]) = true:=lt_t li_plus c2
    have ho : rowOp 4 (hdW ws9) = 6:=by unfold rowOp;rw [if_neg c0,if_neg c1,if_pos c2];rfl
    obtain ⟨ws1,hcons,htk⟩:=tkS_hd2 4 6 (by decide) ws9 ho (by decide)
    have HTT:=hidE ((rowL_some (inner:=inner) (k:=k8) (x:=x) htk).symm.trans HR.out)
    have hi : inner ws1 ≠ .error 99:=fun e => HT.out (by rw [← HTT.out,e])
    have HI:=hidE hi
    have NX:=hidE NX
    rw [hcons] at hp
    have HPC:=hidE hp
    obtain ⟨-,hn9,hd9⟩:=ws_one hp.ws0
    have hlt : n9 < 100:=by have:=hp.few;omega
    have HD:=hidE hd9
    have HL9:=hidE hn9
    clear hp ho htk c0 c1 c2 HR hi hcons hd9 hn9
    generalize hdW ws9 = x9 at *
    go_wp2_with fail
    refine NX.out.mono ?_
    rintro r w2 ⟨rfl,hb⟩
    have H2:=rd_kept HPC.out hb
    have c1 : w2.cell? ⟨g,1,none⟩ = some (.int .i64 (n9 : Int)):=H2.bd.c 1 (by simp)
    have f1:=H2.bd.fz 1
    have B1:=blk_set H2.bd 1 (.int .i64 ((n9 : Int) + 1)) (by simp)
    have P1:=rd_set H2 1 (.int .i64 ((n9 : Int) + 1)) (n':=n9 + 1) (ws':=ws1) (d':=d) (e':=0) (by simpa using B1) (by have:=HL9.out;omega) (Int.le_refl _) (by rw [if_pos rfl];exact HD.out.symm)
    have LV:=hidE (HH.out ws1 (n9 + 1) _ P1.1 HI.out)
    have HK2:=hidE (keptB_trans (keptB_of_below (bad:=fun q => q = g) hb) P1.2)
    have HN2:=hidE (nds_kept HN.out HK2.out (fun k e => by omega))
    clear hb NX H2 B1 P1
    go_wp2_with fail
    refine LV.out.mono ?_
    rintro r w3 ⟨v3,rfl,hs3,hR3⟩
    obtain ⟨a3,q3,c3',rfl⟩:=sl_shape hs3
    have PT:=hidE (rlu_put2 g 6 (by decide) (.slice a q c) (.slice a3 q3 c3') rfl x wv all d _ _ w3 (rlu_nds hR3 HN2.out) hR3)
    have HK3:=hidE (keptB_trans HK2.out hR3.1)
    clear hs3 hR3 LV HK2 HN2
    go_wp2_with fail
    refine PT.out.mono ?_
    rintro r w4 ⟨v4,rfl,hs4,hR4⟩
    obtain ⟨a4,q4,c4',rfl⟩:=sl_shape hs4
    have RQ:=hidE (rowQ_next hs4 HTT.out hR4)
    have HK4:=hidE (keptB_trans HK3.out hR4.1)
    have HM:=hidE (rmeas_lt HS0.out HPC.out hR4)
    clear hs4 hR4 PT HK3
    go_wp2_with fail
    go_roundw
    case rel => exact ⟨keptB_trans HK.out HK4.out,RQ⟩
    case measure => exact HM.out
   ·intro c0 c1 c2 c3
    have t0 : ((hdW ws9).toList == [111,114]) = false:=lt_f li_or c0
    have t1 : ((hdW ws9).toList == [97,110,100]) = false:=lt_f li_and c1
    have t2 : ((hdW ws9).toList == [43]) = false:=lt_f li_plus c2
    have t3 : ((hdW ws9).toList == [45]) = true:=lt_t li_minus c3
    have ho : rowOp 4 (hdW ws9) = 7:=by unfold rowOp;rw [if_neg c0,if_neg c1,if_neg c2,if_pos c3];rfl
    obtain ⟨ws1,hcons,htk⟩:=tkS_hd2 4 7 (by decide) ws9 ho (by decide)
    have HTT:=hidE ((rowL_some (inner:=inner) (k:=k8) (x:=x) htk).symm.trans HR.out)
    have hi : inner ws1 ≠ .error 99:=fun e => HT.out (by rw [← HTT.out,e])
    have HI:=hidE hi
    have NX:=hidE NX
    rw [hcons] at hp
    have HPC:=hidE hp
    obtain ⟨-,hn9,hd9⟩:=ws_one hp.ws0
    have hlt : n9 < 100:=by have:=hp.few;omega
    have HD:=hidE hd9
    have HL9:=hidE hn9
    clear hp ho htk c0 c1 c2 c3 HR hi hcons hd9 hn9
    generalize hdW ws9 = x9 at *
    go_wp2_with fail
    refine NX.out.mono ?_
    rintro r w2 ⟨rfl,hb⟩
    have H2:=rd_kept HPC.out hb
    have c1 : w2.cell? ⟨g,1,none⟩ = some (.int .i64 (n9 : Int)):=H2.bd.c 1 (by simp)
    have f1:=H2.bd.fz 1
    have B1:=blk_set H2.bd 1 (.int .i64 ((n9 : Int) + 1)) (by simp)
    have P1:=rd_set H2 1 (.int .i64 ((n9 : Int) + 1)) (n':=n9 + 1) (ws':=ws1) (d':=d) (e':=0) (by simpa using B1) (by have:=HL9.out;omega) (Int.le_refl _) (by rw [if_pos rfl];exact HD.out.symm)
    have LV:=hidE (HH.out ws1 (n9 + 1) _ P1.1 HI.out)
    have HK2:=hidE (keptB_trans (keptB_of_below (bad:=fun q => q = g) hb) P1.2)
    have HN2:=hidE (nds_kept HN.out HK2.out (fun k e => by omega))
    clear hb NX H2 B1 P1
    go_wp2_with fail
    refine LV.out.mono ?_
    rintro r w3 ⟨v3,rfl,hs3,hR3⟩
    obtain ⟨a3,q3,c3',rfl⟩:=sl_shape hs3
    have PT:=hidE (rlu_put2 g 7 (by decide) (.slice a q c) (.slice a3 q3 c3') rfl x wv all d _ _ w3 (rlu_nds hR3 HN2.out) hR3)
    have HK3:=hidE (keptB_trans HK2.out hR3.1)
    clear hs3 hR3 LV HK2 HN2
    go_wp2_with fail
    refine PT.out.mono ?_
    rintro r w4 ⟨v4,rfl,hs4,hR4⟩
    obtain ⟨a4,q4,c4',rfl⟩:=sl_shape hs4
    have RQ:=hidE (rowQ_next hs4 HTT.out hR4)
    have HK4:=hidE (keptB_trans HK3.out hR4.1)
    have HM:=hidE (rmeas_lt HS0.out HPC.out hR4)
    clear hs4 hR4 PT HK3
    go_wp2_with fail
    go_roundw
    case rel => exact ⟨keptB_trans HK.out HK4.out,RQ⟩
    case measure => exact HM.out
   ·intro c0 c1 c2 c3 c4
    have t0 : ((hdW ws9).toList == [111,114]) = false:=lt_f li_or c0
    have t1 : ((hdW ws9).toList == [97,110,100]) = false:=lt_f li_and c1
    have t2 : ((hdW ws9).toList == [43]) = false:=lt_f li_plus c2
    have t3 : ((hdW ws9).toList == [45]) = false:=lt_f li_minus c3
    have t4 : ((hdW ws9).toList == [42]) = true:=lt_t li_star c4
    have ho : rowOp 4 (hdW ws9) = 0:=by unfold rowOp;rw [if_neg c0,if_neg c1,if_neg c2,if_neg c3,if_pos c4];rfl
    have HTT : Hid (T = .ok (x,ws9)):=hidE (by rw [← HR.out];exact rowL_none (tkS_hd 4 (by decide) ws9 ho))
    have NX:=hidE NX
    clear hp ho c0 c1 c2 c3 c4 HR
    generalize hdW ws9 = x9 at *
    go_wp2_with fail
    refine NX.out.mono ?_
    rintro r w2 ⟨rfl,hb⟩
    have HB:=hidE hb
    clear hb NX
    go_wp2_with fail
    go_ret
    rw [HTT.out]
    exact ⟨_,rfl,rfl,keptB_trans HK.out (keptB_of_below HB.out),n9,nds_kept HN.out (keptB_of_below (bad:=fun q => q = g) HB.out) (fun k e => by omega),rd_kept HP.out HB.out⟩
   ·intro c0 c1 c2 c3 c4
    have t0 : ((hdW ws9).toList == [111,114]) = false:=lt_f li_or c0
    have t1 : ((hdW ws9).toList == [97,110,100]) = false:=lt_f li_and c1
    have t2 : ((hdW ws9).toList == [43]) = false:=lt_f li_plus c2
    have t3 : ((hdW ws9).toList == [45]) = false:=lt_f li_minus c3
    have t4 : ((hdW ws9).toList == [42]) = false:=lt_f li_star c4
    have ho : rowOp 4 (hdW ws9) = 0:=by unfold rowOp;rw [if_neg c0,if_neg c1,if_neg c2,if_neg c3,if_neg c4]
    have HTT : Hid (T = .ok (x,ws9)):=hidE (by rw [← HR.out];exact rowL_none (tkS_hd 4 (by decide) ws9 ho))
    have NX:=hidE NX
    clear hp ho c0 c1 c2 c3 c4 HR
    generalize hdW ws9 = x9 at *
    go_wp2_with fail
    refine NX.out.mono ?_
    rintro r w2 ⟨rfl,hb⟩
    have HB:=hidE hb
    clear hb NX
    go_wp2_with fail
    go_ret
    rw [HTT.out]
    exact ⟨_,rfl,rfl,keptB_trans HK.out (keptB_of_below HB.out),n9,nds_kept HN.out (keptB_of_below (bad:=fun q => q = g) HB.out) (fun k e => by omega),rd_kept HP.out HB.out⟩
  ·have c3 : wr.cell? ⟨g,3,none⟩ = some (.int .i64 c):=hp.bd.c 3 (by simp)
   have q0 : ¬ c = 0:=by omega
   have q1 : (c == 0) = false:=by simpa using q0
   have HP:=hidE hp
   have HC:=hidE hc
   have HTT:=hidE hTe
   clear hp hTe hc
   go_wp2_with fail
   go_ret
   rw [HTT.out]
   exact ⟨_,rfl,rfl,HK.out,n9,HC.out,HP.out⟩
theorem rrows_5 (inner : Ws → PR) (g : Nat) (wv : Value) (all : Ws) (n : Nat) (ws : Ws) (d : Int) (w : World) (h : RD w g wv all n ws d 0) (m : Nat) (T : PR) (hTe : rowP inner 4 m ws = T) (hT : T ≠ .error 99)
  (H1 : ∀ ws n w,RD w g wv all n ws d 0 → inner ws ≠ .error 99 → Calls Tryz.prog 36 #[.pointer (some ⟨g,0,none⟩),.int .i64 6] w fun r w' => ∃ v,r = .returned v ∧ isSl v = true ∧ RLu w w' g wv all d (inner ws) v)
  (hS : ∀ ws y ws2,inner ws = .ok (y,ws2) → ws2.length ≤ ws.length) :
  Calls Tryz.prog 57 #[.pointer (some ⟨g,0,none⟩),.int .i64 5] w fun r w' => ∃ v,r = .returned v ∧ isSl v = true ∧ RLu w w' g wv all d T v:=by
 have hi : inner ws ≠ .error 99:=fun e => hT (by rw [← hTe];unfold rowP;rw [e])
 have L0:=hidE (H1 ws n w h hi)
 have HT:=hidE hT
 have HTE:=hidE hTe
 have HH:=hidE H1
 have HS0:=hidE hS
 clear h hTe hT H1 hS hi
 go_enter Tryz.func57,Tryz.ntmps57
 go_wp2_with fail
 refine L0.out.mono ?_
 rintro r w1 ⟨v,rfl,hs,hR⟩
 obtain ⟨a,q,c,rfl⟩:=sl_shape hs
 have K1:=hidE hR.1
 have ST1:=hidE (rowQ_start hs HTE.out hR)
 clear hs hR L0 HTE
 go_wp2_with fail
 go_loopw [5] (fun v wr => Hid (KeptB w wr (fun q => q = g)) ∧ Hid (RowQ wr g wv all d 4 inner T v)) (fun _ wr => rmeas wr g)
 case atStart => exact ⟨K1,ST1⟩
 case round =>
  clear K1 ST1
  obtain ⟨HK,HS⟩:=hrel
  rename_i v9 _
  obtain ⟨hs,hor⟩:=HS.out
  obtain ⟨a,q,c,rfl⟩:=sl_shape hs
  clear hs HS
  rcases hor with ⟨x,ws9,k9,n9,hn,hp,hr⟩ | ⟨c,n9,hc,hTe,hp⟩
  ·obtain ⟨k8,hk8⟩:=rowL_99q hr HT.out
   subst hk8
   have c3 : wr.cell? ⟨g,3,none⟩ = some (.int .i64 0):=hp.bd.c 3 (by simp)
   have NX:=rnext_any g wv all n9 ws9 d 0 wr hp
   have HN:=hidE hn
   have HP:=hidE hp
   have HR:=hidE hr
   clear hn hr
   refine five (hdW ws9) _ ?_ ?_ ?_ ?_ ?_ ?_
   ·intro c0
    have t0 : ((hdW ws9).toList == [111,114]) = true:=lt_t li_or c0
    have ho : rowOp 5 (hdW ws9) = 0:=by unfold rowOp;rw [if_pos c0];rfl
    have HTT : Hid (T = .ok (x,ws9)):=hidE (by rw [← HR.out];exact rowL_none (tkS_hd 5 (by decide) ws9 ho))
    have NX:=hidE NX
    clear hp ho c0 HR
    generalize hdW ws9 = x9 at *
    go_wp2_with fail
    refine NX.out.mono ?_
    rintro r w2 ⟨rfl,hb⟩
    have HB:=hidE hb
    clear hb NX
    go_wp2_with fail
    go_ret
    rw [HTT.out]
    exact ⟨_,rfl,rfl,keptB_trans HK.out (keptB_of_below HB.out),n9,nds_kept HN.out (keptB_of_below (bad:=fun q => q = g) HB.out) (fun k e => by omega),rd_kept HP.out HB.out⟩
   ·intro c0 c1
    have t0 : ((hdW ws9).toList == [111,114]) = false:=lt_f li_or c0
    have t1 : ((hdW ws9).toList == [97,110,100]) = true:=lt_t li_and c1
    have ho : rowOp 5 (hdW ws9) = 0:=by unfold rowOp;rw [if_neg c0,if_pos c1];rfl
    have HTT : Hid (T = .ok (x,ws9)):=hidE (by rw [← HR.out];exact rowL_none (tkS_hd 5 (by decide) ws9 ho))
    have NX:=hidE NX
    clear hp ho c0 c1 HR
    generalize hdW ws9 = x9 at *
    go_wp2_with fail
    refine NX.out.mono ?_
    rintro r w2 ⟨rfl,hb⟩
    have HB:=hidE hb
    clear hb NX
    go_wp2_with fail
    go_ret
    rw [HTT.out]
    exact ⟨_,rfl,rfl,keptB_trans HK.out (keptB_of_below HB.out),n9,nds_kept HN.out (keptB_of_below (bad:=fun q => q = g) HB.out) (fun k e => by omega),rd_kept HP.out HB.out⟩
   ·intro c0 c1 c2
    have t0 : ((hdW ws9).toList == [111,114]) = false:=lt_f li_or c0
    have t1 : ((hdW ws9).toList == [97,110,100]) = false:=lt_f li_and c1
    have t2 : ((hdW ws9).toList == [43]) = true:=lt_t li_plus c2
    have ho : rowOp 5 (hdW ws9) = 0:=by unfold rowOp;rw [if_neg c0,if_neg c1,if_pos c2];rfl
    have HTT : Hid (T = .ok (x,ws9)):=hidE (by rw [← HR.out];exact rowL_none (tkS_hd 5 (by decide) ws9 ho))
    have NX:=hidE NX
    clear hp ho c0 c1 c2 HR
    generalize hdW ws9 = x9 at *
    go_wp2_with fail
    refine NX.out.mono ?_
    rintro r w2 ⟨rfl,hb⟩
    have HB:=hidE hb
    clear hb NX
    go_wp2_with fail
    go_ret
    rw [HTT.out]
    exact ⟨_,rfl,rfl,keptB_trans HK.out (keptB_of_below HB.out),n9,nds_kept HN.out (keptB_of_below (bad:=fun q => q = g) HB.out) (fun k e => by omega),rd_kept HP.out HB.out⟩
   ·intro c0 c1 c2 c3
    have t0 : ((hdW ws9).toList == [111,114]) = false:=lt_f li_or c0
    have t1 : ((hdW ws9).toList == [97,110,100]) = false:=lt_f li_and c1
    have t2 : ((hdW ws9).toList == [43]) = false:=lt_f li_plus c2
    have t3 : ((hdW ws9).toList == [45]) = true:=lt_t li_minus c3
    have ho : rowOp 5 (hdW ws9) = 0:=by unfold rowOp;rw [if_neg c0,if_neg c1,if_neg c2,if_pos c3];rfl
    have HTT : Hid (T = .ok (x,ws9)):=hidE (by rw [← HR.out];exact rowL_none (tkS_hd 5 (by decide) ws9 ho))
    have NX:=hidE NX
    clear hp ho c0 c1 c2 c3 HR
    generalize hdW ws9 = x9 at *
    go_wp2_with fail
    refine NX.out.mono ?_
    rintro r w2 ⟨rfl,hb⟩
    have HB:=hidE hb
    clear hb NX
    go_wp2_with fail
    go_ret
    rw [HTT.out]
    exact ⟨_,rfl,rfl,keptB_trans HK.out (keptB_of_below HB.out),n9,nds_kept HN.out (keptB_of_below (bad:=fun q => q = g) HB.out) (fun k e => by omega),rd_kept HP.out HB.out⟩
   ·intro c0 c1 c2 c3 c4
    have t0 : ((hdW ws9).toList == [111,114]) = false:=lt_f li_or c0
    have t1 : ((hdW ws9).toList == [97,110,100]) = false:=lt_f li_and c1
    have t2 : ((hdW ws9).toList == [43]) = false:=lt_f li_plus c2
    have t3 : ((hdW ws9).toList == [45]) = false:=lt_f li_minus c3
    have t4 : ((hdW ws9).toList == [42]) = true:=lt_t li_star c4
    have ho : rowOp 5 (hdW ws9) = 8:=by unfold rowOp;rw [if_neg c0,if_neg c1,if_neg c2,if_neg c3,if_pos c4];rfl
    obtain ⟨ws1,hcons,htk⟩:=tkS_hd2 5 8 (by decide) ws9 ho (by decide)
    have HTT:=hidE ((rowL_some (inner:=inner) (k:=k8) (x:=x) htk).symm.trans HR.out)
    have hi : inner ws1 ≠ .error 99:=fun e => HT.out (by rw [← HTT.out,e])
    have HI:=hidE hi
    have NX:=hidE NX
    rw [hcons] at hp
    have HPC:=hidE hp
    obtain ⟨-,hn9,hd9⟩:=ws_one hp.ws0
    have hlt : n9 < 100:=by have:=hp.few;omega
    have HD:=hidE hd9
    have HL9:=hidE hn9
    clear hp ho htk c0 c1 c2 c3 c4 HR hi hcons hd9 hn9
    generalize hdW ws9 = x9 at *
    go_wp2_with fail
    refine NX.out.mono ?_
    rintro r w2 ⟨rfl,hb⟩
    have H2:=rd_kept HPC.out hb
    have c1 : w2.cell? ⟨g,1,none⟩ = some (.int .i64 (n9 : Int)):=H2.bd.c 1 (by simp)
    have f1:=H2.bd.fz 1
    have B1:=blk_set H2.bd 1 (.int .i64 ((n9 : Int) + 1)) (by simp)
    have P1:=rd_set H2 1 (.int .i64 ((n9 : Int) + 1)) (n':=n9 + 1) (ws':=ws1) (d':=d) (e':=0) (by simpa using B1) (by have:=HL9.out;omega) (Int.le_refl _) (by rw [if_pos rfl];exact HD.out.symm)
    have LV:=hidE (HH.out ws1 (n9 + 1) _ P1.1 HI.out)
    have HK2:=hidE (keptB_trans (keptB_of_below (bad:=fun q => q = g) hb) P1.2)
    have HN2:=hidE (nds_kept HN.out HK2.out (fun k e => by omega))
    clear hb NX H2 B1 P1
    go_wp2_with fail
    refine LV.out.mono ?_
    rintro r w3 ⟨v3,rfl,hs3,hR3⟩
    obtain ⟨a3,q3,c3',rfl⟩:=sl_shape hs3
    have PT:=hidE (rlu_put2 g 8 (by decide) (.slice a q c) (.slice a3 q3 c3') rfl x wv all d _ _ w3 (rlu_nds hR3 HN2.out) hR3)
    have HK3:=hidE (keptB_trans HK2.out hR3.1)
    clear hs3 hR3 LV HK2 HN2
    go_wp2_with fail
    refine PT.out.mono ?_
    rintro r w4 ⟨v4,rfl,hs4,hR4⟩
    obtain ⟨a4,q4,c4',rfl⟩:=sl_shape hs4
    have RQ:=hidE (rowQ_next hs4 HTT.out hR4)
    have HK4:=hidE (keptB_trans HK3.out hR4.1)
    have HM:=hidE (rmeas_lt HS0.out HPC.out hR4)
    clear hs4 hR4 PT HK3
    go_wp2_with fail
    go_roundw
    case rel => exact ⟨keptB_trans HK.out HK4.out,RQ⟩
    case measure => exact HM.out
   ·intro c0 c1 c2 c3 c4
    have t0 : ((hdW ws9).toList == [111,114]) = false:=lt_f li_or c0
    have t1 : ((hdW ws9).toList == [97,110,100]) = false:=lt_f li_and c1
    have t2 : ((hdW ws9).toList == [43]) = false:=lt_f li_plus c2
    have t3 : ((hdW ws9).toList == [45]) = false:=lt_f li_minus c3
    have t4 : ((hdW ws9).toList == [42]) = false:=lt_f li_star c4
    have ho : rowOp 5 (hdW ws9) = 0:=by unfold rowOp;rw [if_neg c0,if_neg c1,if_neg c2,if_neg c3,if_neg c4]
    have HTT : Hid (T = .ok (x,ws9)):=hidE (by rw [← HR.out];exact rowL_none (tkS_hd 5 (by decide) ws9 ho))
    have NX:=hidE NX
    clear hp ho c0 c1 c2 c3 c4 HR
    generalize hdW ws9 = x9 at *
    go_wp2_with fail
    refine NX.out.mono ?_
    rintro r w2 ⟨rfl,hb⟩
    have HB:=hidE hb
    clear hb NX
    go_wp2_with fail
    go_ret
    rw [HTT.out]
    exact ⟨_,rfl,rfl,keptB_trans HK.out (keptB_of_below HB.out),n9,nds_kept HN.out (keptB_of_below (bad:=fun q => q = g) HB.out) (fun k e => by omega),rd_kept HP.out HB.out⟩
  ·have c3 : wr.cell? ⟨g,3,none⟩ = some (.int .i64 c):=hp.bd.c 3 (by simp)
   have q0 : ¬ c = 0:=by omega
   have q1 : (c == 0) = false:=by simpa using q0
   have HP:=hidE hp
   have HC:=hidE hc
   have HTT:=hidE hTe
   clear hp hTe hc
   go_wp2_with fail
   go_ret
   rw [HTT.out]
   exact ⟨_,rfl,rfl,HK.out,n9,HC.out,HP.out⟩
theorem li_lt : wLt.toList = [60]:=by rw [Lib.toList_data];rfl
theorem li_gt : wGt.toList = [62]:=by rw [Lib.toList_data];rfl
theorem li_le : wLe.toList = [60,61]:=by rw [Lib.toList_data];rfl
theorem li_ge : wGe.toList = [62,61]:=by rw [Lib.toList_data];rfl
theorem li_eq : wEq.toList = [61]:=by rw [Lib.toList_data];rfl
theorem li_ne : wNe.toList = [60,62]:=by rw [Lib.toList_data];rfl
theorem li_is : wIs.toList = [105,115]:=by rw [Lib.toList_data];rfl
theorem rlu_of {w : World} {g n : Nat} {wv u : Value} {all : Ws} {d : Int} {x : List Nd} {ws : Ws} (hn : NdsR w (g + 1) u x) (h : RD w g wv all n ws d 0) : RLu w w g wv all d (.ok (x,ws)) u:=⟨keptB_of_below (Below.refl _ _),n,hn,h⟩
theorem null_f (x : List Nd) (ws : Ws) : nullP x false ws = aheadP 5 (mustR wNull (.ok (x,ws))):=by
 unfold nullP mustR aheadP
 simp only
 cases tk wNull ws with
 | none => rfl
 | some ws1 =>
  simp only [jnD]
  cases jn1 5 x <;> rfl
theorem null_t (x : List Nd) (ws : Ws) : nullP x true ws = aheadP 4 (aheadP 5 (mustR wNull (.ok (x,ws)))):=by
 unfold nullP mustR aheadP
 simp only
 cases tk wNull ws with
 | none => rfl
 | some ws1 =>
  simp only [jnD]
  cases jn1 5 x with
  | error c => rfl
  | ok z => rfl
theorem cmp_sign {inner : Ws → PR} {x : List Nd} {ws ws2 : Ws} {s : Sg} (h1 : tk wIs ws = none) (h2 : tkS 2 ws = some (s,ws2)) :
  cmpP inner x ws = (match inner ws2 with
   | .error c => .error c
   | .ok (y,ws3) => wth ws3 (jnS s x y)):=by
 unfold cmpP
 rw [h1]
 simp only [h2]
 cases inner ws2 <;> rfl
theorem ahead_wth (ws : Ws) (r : Except Int (List Nd)) : aheadP 4 (wth ws r) = wth ws (jnD true r):=by
 cases r with
 | error c => rfl
 | ok l => rfl
theorem jnD_f (r : Except Int (List Nd)) : jnD false r = r:=by
 cases r <;> rfl
theorem pp (op : Int) (inner : Ws → PR) (x : List Nd) (ws2 : Ws) : (match inner ws2 with
   | .error c => .error c
   | .ok (y,ws3) => wth ws3 (jnS ⟨2,op,false,false⟩ x y)) = putP op x (inner ws2):=by
 unfold putP
 cases inner ws2 with
 | error c => rfl
 | ok p => obtain ⟨y,ws3⟩:=p;simp [jnS,jnD_f]
theorem pt (op : Int) (inner : Ws → PR) (x : List Nd) (ws2 : Ws) : (match inner ws2 with
   | .error c => .error c
   | .ok (y,ws3) => wth ws3 (jnS ⟨2,op,true,false⟩ x y)) = putT op x (inner ws2):=by
 unfold putT
 cases inner ws2 with
 | error c => rfl
 | ok p => obtain ⟨y,ws3⟩:=p;simp [jnS,jnD_f]
theorem app (op : Int) (inner : Ws → PR) (x : List Nd) (ws2 : Ws) : (match inner ws2 with
   | .error c => .error c
   | .ok (y,ws3) => wth ws3 (jnS ⟨2,op,false,true⟩ x y)) = aheadP 4 (putP op x (inner ws2)):=by
 unfold putP
 cases inner ws2 with
 | error c => rfl
 | ok p => obtain ⟨y,ws3⟩:=p;simp [jnS,ahead_wth]
theorem apt (op : Int) (inner : Ws → PR) (x : List Nd) (ws2 : Ws) : (match inner ws2 with
   | .error c => .error c
   | .ok (y,ws3) => wth ws3 (jnS ⟨2,op,true,true⟩ x y)) = aheadP 4 (putT op x (inner ws2)):=by
 unfold putT
 cases inner ws2 with
 | error c => rfl
 | ok p => obtain ⟨y,ws3⟩:=p;simp [jnS,ahead_wth]
def CompR (inner : Ws → PR) (ws : Ws) : PR:=match inner ws with
 | .error c => .error c
 | .ok (x,ws1) => cmpP inner x ws1
theorem rd_step {w : World} {g : Nat} {wv : Value} {all : Ws} {n : Nat} {x : ByteArray} {ws1 : Ws} {d : Int} (h : RD w g wv all n (x :: ws1) d 0) :
  n < 100 ∧ w.cell? ⟨g,1,none⟩ = some (.int .i64 (n : Int)) ∧ w.frozen? ⟨g,1,none⟩ = false ∧ RD (w.setCell ⟨g,1,none⟩ (.int .i64 ((n : Int) + 1))) g wv all (n + 1) ws1 d 0 ∧ KeptB w (w.setCell ⟨g,1,none⟩ (.int .i64 ((n : Int) + 1))) (fun q => q = g):=by
 obtain ⟨-,hn,hd⟩:=ws_one h.ws0
 have hlt : n < 100:=by have:=h.few;omega
 have c1 : w.cell? ⟨g,1,none⟩ = some (.int .i64 (n : Int)):=h.bd.c 1 (by simp)
 have f1:=h.bd.fz 1
 have B1:=blk_set h.bd 1 (.int .i64 ((n : Int) + 1)) (by simp)
 have P1:=rd_set h 1 (.int .i64 ((n : Int) + 1)) (n':=n + 1) (ws':=ws1) (d':=d) (e':=0) (by simpa using B1) (by omega) (Int.le_refl _) (by rw [if_pos rfl];exact hd.symm)
 exact ⟨hlt,c1,f1,P1.1,P1.2⟩
theorem tk_lt (r : Ws) : tk wIs (wLt :: r) = none ∧ tkS 2 (wLt :: r) = some (⟨2,11,false,false⟩,r):=by
 refine ⟨?_,?_⟩
 ·simp only [tk];rw [if_neg (by decide)]
 ·have e : sgOf wLt = some ⟨2,11,false,false⟩:=by decide
  simp only [tkS,e];rfl
theorem tk_gt (r : Ws) : tk wIs (wGt :: r) = none ∧ tkS 2 (wGt :: r) = some (⟨2,11,true,false⟩,r):=by
 refine ⟨?_,?_⟩
 ·simp only [tk];rw [if_neg (by decide)]
 ·have e : sgOf wGt = some ⟨2,11,true,false⟩:=by decide
  simp only [tkS,e];rfl
theorem tk_le (r : Ws) : tk wIs (wLe :: r) = none ∧ tkS 2 (wLe :: r) = some (⟨2,11,true,true⟩,r):=by
 refine ⟨?_,?_⟩
 ·simp only [tk];rw [if_neg (by decide)]
 ·have e : sgOf wLe = some ⟨2,11,true,true⟩:=by decide
  simp only [tkS,e];rfl
theorem tk_ge (r : Ws) : tk wIs (wGe :: r) = none ∧ tkS 2 (wGe :: r) = some (⟨2,11,false,true⟩,r):=by
 refine ⟨?_,?_⟩
 ·simp only [tk];rw [if_neg (by decide)]
 ·have e : sgOf wGe = some ⟨2,11,false,true⟩:=by decide
  simp only [tkS,e];rfl
theorem tk_eq (r : Ws) : tk wIs (wEq :: r) = none ∧ tkS 2 (wEq :: r) = some (⟨2,12,false,false⟩,r):=by
 refine ⟨?_,?_⟩
 ·simp only [tk];rw [if_neg (by decide)]
 ·have e : sgOf wEq = some ⟨2,12,false,false⟩:=by decide
  simp only [tkS,e];rfl
theorem tk_ne (r : Ws) : tk wIs (wNe :: r) = none ∧ tkS 2 (wNe :: r) = some (⟨2,12,false,true⟩,r):=by
 refine ⟨?_,?_⟩
 ·simp only [tk];rw [if_neg (by decide)]
 ·have e : sgOf wNe = some ⟨2,12,false,true⟩:=by decide
  simp only [tkS,e];rfl
theorem cmp_none {inner : Ws → PR} {x : List Nd} {ws : Ws} (h0 : hdW ws ≠ wLt) (h1 : hdW ws ≠ wGt) (h2 : hdW ws ≠ wLe) (h3 : hdW ws ≠ wGe) (h4 : hdW ws ≠ wEq) (h5 : hdW ws ≠ wNe) (h6 : hdW ws ≠ wIs) : cmpP inner x ws = .ok (x,ws):=by
 cases ws with
 | nil => rfl
 | cons y r =>
  simp only [hdW] at h0 h1 h2 h3 h4 h5 h6
  unfold cmpP
  have e : tk wIs (y :: r) = none:=by simp only [tk];rw [if_neg h6]
  rw [e]
  simp only
  have e2 : tkS 2 (y :: r) = none:=by
   simp only [tkS,sgOf,sgL,sgIn]
   rw [if_neg h0,if_neg h1,if_neg h2,if_neg h3,if_neg h4,if_neg h5]
   by_cases c1 : y = wOr
   ·rw [if_pos c1];rfl
   rw [if_neg c1]
   by_cases c2 : y = wAnd
   ·rw [if_pos c2];rfl
   rw [if_neg c2]
   by_cases c3 : y = wPlus
   ·rw [if_pos c3];rfl
   rw [if_neg c3]
   by_cases c4 : y = wMinus
   ·rw [if_pos c4];rfl
   rw [if_neg c4]
   by_cases c5 : y = wStar
   ·rw [if_pos c5];rfl
   rw [if_neg c5]
  rw [e2]
end Go.Proofs.YteaanpdckkmjoaaGreatDoor

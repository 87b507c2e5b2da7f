/- Several texts in one, each with its own head. What is proved: what the parts say. Conditions: theirs. -/
import Derived.Test.YteaanpdckkmjoaaGreatDoorRqIJ
import Derived.Test.YteaanpdckkmjoaaGreatDoorPrsBJ
set_option linter.unusedVariables false
set_option linter.unusedSimpArgs false
set_option maxRecDepth 100000
set_option maxHeartbeats 8000000
namespace Go.Proofs.YteaanpdckkmjoaaGreatDoor
open Go.ChangeShapes Go.WideShapes Go.ChangeAt Go.RowKit
theorem rcomp_err (g : Nat) (wv : Value) (all : Ws) (hne : ∀ x ∈ all,x ≠ ⟨#[]⟩) (d : Int) (w : World) (c9 : Int) (L0 : Hid (Calls Tryz.prog 36 #[.pointer (some ⟨g,0,none⟩),.int .i64 4] w fun r w' => ∃ v,r = .returned v ∧ isSl v = true ∧ RLu w w' g wv all d (.error c9) v)) :
  Calls Tryz.prog 60 #[.pointer (some ⟨g,0,none⟩)] w fun r w' => ∃ v,r = .returned v ∧ isSl v = true ∧ RLu w w' g wv all d (.error c9) v:=by
 go_enter Tryz.func60,Tryz.ntmps60
 go_wp2_with fail
 refine L0.out.mono ?_
 rintro r w1 ⟨v,rfl,hs,hR⟩
 obtain ⟨a,q,c,rfl⟩:=sl_shape hs
 have K1:=hidE hR.1
 obtain ⟨-,n',hc,hp⟩:=hR
 have NX:=hidE (rnext_any g wv all n' [] d c9 w1 hp)
 have HP:=hidE hp
 have HC:=hidE hc
 clear hp hc hs L0
 go_wp2_with fail
 refine NX.out.mono ?_
 rintro r w2 ⟨rfl,hb⟩
 have HB:=hidE hb
 clear hb NX
 simp only [hdW]
 go_wp2_with fail
 go_ret
 exact ⟨_,rfl,rfl,keptB_trans K1.out (keptB_of_below HB.out),n',HC.out,rd_kept HP.out HB.out⟩
theorem rcomp_none (g : Nat) (wv : Value) (all : Ws) (hne : ∀ x ∈ all,x ≠ ⟨#[]⟩) (d : Int) (w : World) (x : List Nd) (ws1 : Ws) (L0 : Hid (Calls Tryz.prog 36 #[.pointer (some ⟨g,0,none⟩),.int .i64 4] w fun r w' => ∃ v,r = .returned v ∧ isSl v = true ∧ RLu w w' g wv all d (.ok (x,ws1)) v)) (t0 : ((hdW ws1).toList == [60]) = false) (t1 : ((hdW ws1).toList == [62]) = false) (t2 : ((hdW ws1).toList == [60,61]) = false) (t3 : ((hdW ws1).toList == [62,61]) = false) (t4 : ((hdW ws1).toList == [61]) = false) (t5 : ((hdW ws1).toList == [60,62]) = false) (t6 : ((hdW ws1).toList == [105,115]) = false) :
  Calls Tryz.prog 60 #[.pointer (some ⟨g,0,none⟩)] w fun r w' => ∃ v,r = .returned v ∧ isSl v = true ∧ RLu w w' g wv all d (.ok (x,ws1)) v:=by
 go_enter Tryz.func60,Tryz.ntmps60
 go_wp2_with fail
 refine L0.out.mono ?_
 rintro r w1 ⟨v,rfl,hs,hR⟩
 obtain ⟨a,q,c,rfl⟩:=sl_shape hs
 have K1:=hidE hR.1
 obtain ⟨-,n1,hn,hp⟩:=hR
 have NX:=rnext_any g wv all n1 ws1 d 0 w1 hp
 have NX:=hidE NX
 have HP:=hidE hp
 have HN:=hidE hn
 clear hp hn hs L0
 generalize hdW ws1 = x9 at *
 go_wp2_with fail
 refine NX.out.mono ?_
 rintro r w2 ⟨rfl,hb⟩
 have HB:=hidE hb
 clear hb NX
 go_wp2_with fail
 go_ret
 exact ⟨_,rfl,rfl,keptB_trans K1.out (keptB_of_below HB.out),n1,nds_kept HN.out (keptB_of_below (bad:=fun q => q = g) HB.out) (fun k e => by omega),rd_kept HP.out HB.out⟩
theorem rcomp_lt (g : Nat) (wv : Value) (all : Ws) (hne : ∀ x ∈ all,x ≠ ⟨#[]⟩) (d : Int) (w : World) (x : List Nd) (ws1 ws2 : Ws) (res : PR) (L0 : Hid (Calls Tryz.prog 36 #[.pointer (some ⟨g,0,none⟩),.int .i64 4] w fun r w' => ∃ v,r = .returned v ∧ isSl v = true ∧ RLu w w' g wv all d (.ok (x,ws1)) v)) (hcons : ws1 = hdW ws1 :: ws2) (L1 : Hid (∀ w n,RD w g wv all n ws2 d 0 → Calls Tryz.prog 36 #[.pointer (some ⟨g,0,none⟩),.int .i64 4] w fun r w' => ∃ v,r = .returned v ∧ isSl v = true ∧ RLu w w' g wv all d (res) v)) (t0 : ((hdW ws1).toList == [60]) = true) (t1 : ((hdW ws1).toList == [62]) = false) (t2 : ((hdW ws1).toList == [60,61]) = false) (t3 : ((hdW ws1).toList == [62,61]) = false) (t4 : ((hdW ws1).toList == [61]) = false) (t5 : ((hdW ws1).toList == [60,62]) = false) (t6 : ((hdW ws1).toList == [105,115]) = false) :
  Calls Tryz.prog 60 #[.pointer (some ⟨g,0,none⟩)] w fun r w' => ∃ v,r = .returned v ∧ isSl v = true ∧ RLu w w' g wv all d (putP 11 x res) v:=by
 go_enter Tryz.func60,Tryz.ntmps60
 go_wp2_with fail
 refine L0.out.mono ?_
 rintro r w1 ⟨v,rfl,hs,hR⟩
 obtain ⟨a,q,c,rfl⟩:=sl_shape hs
 have K1:=hidE hR.1
 obtain ⟨-,n1,hn,hp⟩:=hR
 have NX:=rnext_any g wv all n1 ws1 d 0 w1 hp
 have NX:=hidE NX
 rw [hcons] at hp
 have HP:=hidE hp
 have HN:=hidE hn
 clear hp hn hs L0 hcons
 generalize hdW ws1 = x9 at *
 go_wp2_with fail
 refine NX.out.mono ?_
 rintro r w2 ⟨rfl,hb⟩
 obtain ⟨hlt,c1,f1,hp2,hk2⟩:=rd_step (rd_kept HP.out hb)
 have HK2:=hidE (keptB_trans (keptB_of_below (bad:=fun q => q = g) hb) hk2)
 have HN2:=hidE (nds_kept HN.out HK2.out (fun k e => by omega))
 have HP2:=hidE hp2
 clear hb NX HN HP hk2 hp2
 have LV:=hidE (L1.out _ _ HP2.out)
 clear L1 HP2
 go_wp2_with fail
 refine LV.out.mono ?_
 rintro r w3 ⟨v3,rfl,hs3,hR3⟩
 obtain ⟨a3,q3,c3',rfl⟩:=sl_shape hs3
 have PT:=hidE (rlu_put2 g 11 (by decide) (.slice a q c) (.slice a3 q3 c3') rfl x wv all d _ _ w3 (rlu_nds hR3 HN2.out) hR3)
 have HK3:=hidE (keptB_trans (keptB_trans K1.out HK2.out) hR3.1)
 clear hs3 hR3 LV HK2 HN2 K1
 go_wp2_with fail
 refine PT.out.mono ?_
 rintro r w4 ⟨v4,rfl,hs4,hR4⟩
 obtain ⟨a4,q4,c4',rfl⟩:=sl_shape hs4
 have HF:=hidE (rlu_from HK3.out hR4)
 clear hR4 PT HK3 hs4
 go_wp2_with fail
 go_ret
 exact ⟨_,rfl,rfl,HF.out⟩
theorem rcomp_gt (g : Nat) (wv : Value) (all : Ws) (hne : ∀ x ∈ all,x ≠ ⟨#[]⟩) (d : Int) (w : World) (x : List Nd) (ws1 ws2 : Ws) (res : PR) (L0 : Hid (Calls Tryz.prog 36 #[.pointer (some ⟨g,0,none⟩),.int .i64 4] w fun r w' => ∃ v,r = .returned v ∧ isSl v = true ∧ RLu w w' g wv all d (.ok (x,ws1)) v)) (hcons : ws1 = hdW ws1 :: ws2) (L1 : Hid (∀ w n,RD w g wv all n ws2 d 0 → Calls Tryz.prog 36 #[.pointer (some ⟨g,0,none⟩),.int .i64 4] w fun r w' => ∃ v,r = .returned v ∧ isSl v = true ∧ RLu w w' g wv all d (res) v)) (t0 : ((hdW ws1).toList == [60]) = false) (t1 : ((hdW ws1).toList == [62]) = true) (t2 : ((hdW ws1).toList == [60,61]) = false) (t3 : ((hdW ws1).toList == [62,61]) = false) (t4 : ((hdW ws1).toList == [61]) = false) (t5 : ((hdW ws1).toList == [60,62]) = false) (t6 : ((hdW ws1).toList == [105,115]) = false) :
  Calls Tryz.prog 60 #[.pointer (some ⟨g,0,none⟩)] w fun r w' => ∃ v,r = .returned v ∧ isSl v = true ∧ RLu w w' g wv all d (putT 11 x res) v:=by
 go_enter Tryz.func60,Tryz.ntmps60
 go_wp2_with fail
 refine L0.out.mono ?_
 rintro r w1 ⟨v,rfl,hs,hR⟩
 obtain ⟨a,q,c,rfl⟩:=sl_shape hs
 have K1:=hidE hR.1
 obtain ⟨-,n1,hn,hp⟩:=hR
 have NX:=rnext_any g wv all n1 ws1 d 0 w1 hp
 have NX:=hidE NX
 rw [hcons] at hp
 have HP:=hidE hp
 have HN:=hidE hn
 clear hp hn hs L0 hcons
 generalize hdW ws1 = x9 at *
 go_wp2_with fail
 refine NX.out.mono ?_
 rintro r w2 ⟨rfl,hb⟩
 obtain ⟨hlt,c1,f1,hp2,hk2⟩:=rd_step (rd_kept HP.out hb)
 have HK2:=hidE (keptB_trans (keptB_of_below (bad:=fun q => q = g) hb) hk2)
 have HN2:=hidE (nds_kept HN.out HK2.out (fun k e => by omega))
 have HP2:=hidE hp2
 clear hb NX HN HP hk2 hp2
 have LV:=hidE (L1.out _ _ HP2.out)
 clear L1 HP2
 go_wp2_with fail
 refine LV.out.mono ?_
 rintro r w3 ⟨v3,rfl,hs3,hR3⟩
 obtain ⟨a3,q3,c3',rfl⟩:=sl_shape hs3
 have PT:=hidE (rlu_put2t g 11 (by decide) (.slice a q c) (.slice a3 q3 c3') rfl x wv all d _ _ w3 (rlu_nds hR3 HN2.out) hR3)
 have HK3:=hidE (keptB_trans (keptB_trans K1.out HK2.out) hR3.1)
 clear hs3 hR3 LV HK2 HN2 K1
 go_wp2_with fail
 refine PT.out.mono ?_
 rintro r w4 ⟨v4,rfl,hs4,hR4⟩
 obtain ⟨a4,q4,c4',rfl⟩:=sl_shape hs4
 have HF:=hidE (rlu_from HK3.out hR4)
 clear hR4 PT HK3 hs4
 go_wp2_with fail
 go_ret
 exact ⟨_,rfl,rfl,HF.out⟩
theorem rcomp_le (g : Nat) (wv : Value) (all : Ws) (hne : ∀ x ∈ all,x ≠ ⟨#[]⟩) (d : Int) (w : World) (x : List Nd) (ws1 ws2 : Ws) (res : PR) (L0 : Hid (Calls Tryz.prog 36 #[.pointer (some ⟨g,0,none⟩),.int .i64 4] w fun r w' => ∃ v,r = .returned v ∧ isSl v = true ∧ RLu w w' g wv all d (.ok (x,ws1)) v)) (hcons : ws1 = hdW ws1 :: ws2) (L1 : Hid (∀ w n,RD w g wv all n ws2 d 0 → Calls Tryz.prog 36 #[.pointer (some ⟨g,0,none⟩),.int .i64 4] w fun r w' => ∃ v,r = .returned v ∧ isSl v = true ∧ RLu w w' g wv all d (res) v)) (t0 : ((hdW ws1).toList == [60]) = false) (t1 : ((hdW ws1).toList == [62]) = false) (t2 : ((hdW ws1).toList == [60,61]) = true) (t3 : ((hdW ws1).toList == [62,61]) = false) (t4 : ((hdW ws1).toList == [61]) = false) (t5 : ((hdW ws1).toList == [60,62]) = false) (t6 : ((hdW ws1).toList == [105,115]) = false) :
  Calls Tryz.prog 60 #[.pointer (some ⟨g,0,none⟩)] w fun r w' => ∃ v,r = .returned v ∧ isSl v = true ∧ RLu w w' g wv all d (aheadP 4 (putT 11 x res)) v:=by
 go_enter Tryz.func60,Tryz.ntmps60
 go_wp2_with fail
 refine L0.out.mono ?_
 rintro r w1 ⟨v,rfl,hs,hR⟩
 obtain ⟨a,q,c,rfl⟩:=sl_shape hs
 have K1:=hidE hR.1
 obtain ⟨-,n1,hn,hp⟩:=hR
 have NX:=rnext_any g wv all n1 ws1 d 0 w1 hp
 have NX:=hidE NX
 rw [hcons] at hp
 have HP:=hidE hp
 have HN:=hidE hn
 clear hp hn hs L0 hcons
 generalize hdW ws1 = x9 at *
 go_wp2_with fail
 refine NX.out.mono ?_
 rintro r w2 ⟨rfl,hb⟩
 obtain ⟨hlt,c1,f1,hp2,hk2⟩:=rd_step (rd_kept HP.out hb)
 have HK2:=hidE (keptB_trans (keptB_of_below (bad:=fun q => q = g) hb) hk2)
 have HN2:=hidE (nds_kept HN.out HK2.out (fun k e => by omega))
 have HP2:=hidE hp2
 clear hb NX HN HP hk2 hp2
 have LV:=hidE (L1.out _ _ HP2.out)
 clear L1 HP2
 go_wp2_with fail
 refine LV.out.mono ?_
 rintro r w3 ⟨v3,rfl,hs3,hR3⟩
 obtain ⟨a3,q3,c3',rfl⟩:=sl_shape hs3
 have PT:=hidE (rlu_put2t g 11 (by decide) (.slice a q c) (.slice a3 q3 c3') rfl x wv all d _ _ w3 (rlu_nds hR3 HN2.out) hR3)
 have HK3:=hidE (keptB_trans (keptB_trans K1.out HK2.out) hR3.1)
 clear hs3 hR3 LV HK2 HN2 K1
 go_wp2_with fail
 refine PT.out.mono ?_
 rintro r w4 ⟨v4,rfl,hs4,hR4⟩
 obtain ⟨a4,q4,c4',rfl⟩:=sl_shape hs4
 have PU:=hidE (rlu_put1 g 4 (by decide) (.slice a4 q4 c4') rfl wv all d _ _ w4 hR4)
 have HK4:=hidE (keptB_trans HK3.out hR4.1)
 clear hR4 PT HK3 hs4
 go_wp2_with fail
 refine PU.out.mono ?_
 rintro r w5 ⟨v5,rfl,hs5,hR5⟩
 obtain ⟨a5,q5,c5',rfl⟩:=sl_shape hs5
 have HF:=hidE (rlu_from HK4.out hR5)
 clear hR5 PU HK4 hs5
 go_wp2_with fail
 go_ret
 exact ⟨_,rfl,rfl,HF.out⟩
theorem rcomp_ge (g : Nat) (wv : Value) (all : Ws) (hne : ∀ x ∈ all,x ≠ ⟨#[]⟩) (d : Int) (w : World) (x : List Nd) (ws1 ws2 : Ws) (res : PR) (L0 : Hid (Calls Tryz.prog 36 #[.pointer (some ⟨g,0,none⟩),.int .i64 4] w fun r w' => ∃ v,r = .returned v ∧ isSl v = true ∧ RLu w w' g wv all d (.ok (x,ws1)) v)) (hcons : ws1 = hdW ws1 :: ws2) (L1 : Hid (∀ w n,RD w g wv all n ws2 d 0 → Calls Tryz.prog 36 #[.pointer (some ⟨g,0,none⟩),.int .i64 4] w fun r w' => ∃ v,r = .returned v ∧ isSl v = true ∧ RLu w w' g wv all d (res) v)) (t0 : ((hdW ws1).toList == [60]) = false) (t1 : ((hdW ws1).toList == [62]) = false) (t2 : ((hdW ws1).toList == [60,61]) = false) (t3 : ((hdW ws1).toList == [62,61]) = true) (t4 : ((hdW ws1).toList == [61]) = false) (t5 : ((hdW ws1).toList == [60,62]) = false) (t6 : ((hdW ws1).toList == [105,115]) = false) :
  Calls Tryz.prog 60 #[.pointer (some ⟨g,0,none⟩)] w fun r w' => ∃ v,r = .returned v ∧ isSl v = true ∧ RLu w w' g wv all d (aheadP 4 (putP 11 x res)) v:=by
 go_enter Tryz.func60,Tryz.ntmps60
 go_wp2_with fail
 refine L0.out.mono ?_
 rintro r w1 ⟨v,rfl,hs,hR⟩
 obtain ⟨a,q,c,rfl⟩:=sl_shape hs
 have K1:=hidE hR.1
 obtain ⟨-,n1,hn,hp⟩:=hR
 have NX:=rnext_any g wv all n1 ws1 d 0 w1 hp
 have NX:=hidE NX
 rw [hcons] at hp
 have HP:=hidE hp
 have HN:=hidE hn
 clear hp hn hs L0 hcons
 generalize hdW ws1 = x9 at *
 go_wp2_with fail
 refine NX.out.mono ?_
 rintro r w2 ⟨rfl,hb⟩
 obtain ⟨hlt,c1,f1,hp2,hk2⟩:=rd_step (rd_kept HP.out hb)
 have HK2:=hidE (keptB_trans (keptB_of_below (bad:=fun q => q = g) hb) hk2)
 have HN2:=hidE (nds_kept HN.out HK2.out (fun k e => by omega))
 have HP2:=hidE hp2
 clear hb NX HN HP hk2 hp2
 have LV:=hidE (L1.out _ _ HP2.out)
 clear L1 HP2
 go_wp2_with fail
 refine LV.out.mono ?_
 rintro r w3 ⟨v3,rfl,hs3,hR3⟩
 obtain ⟨a3,q3,c3',rfl⟩:=sl_shape hs3
 have PT:=hidE (rlu_put2 g 11 (by decide) (.slice a q c) (.slice a3 q3 c3') rfl x wv all d _ _ w3 (rlu_nds hR3 HN2.out) hR3)
 have HK3:=hidE (keptB_trans (keptB_trans K1.out HK2.out) hR3.1)
 clear hs3 hR3 LV HK2 HN2 K1
 go_wp2_with fail
 refine PT.out.mono ?_
 rintro r w4 ⟨v4,rfl,hs4,hR4⟩
 obtain ⟨a4,q4,c4',rfl⟩:=sl_shape hs4
 have PU:=hidE (rlu_put1 g 4 (by decide) (.slice a4 q4 c4') rfl wv all d _ _ w4 hR4)
 have HK4:=hidE (keptB_trans HK3.out hR4.1)
 clear hR4 PT HK3 hs4
 go_wp2_with fail
 refine PU.out.mono ?_
 rintro r w5 ⟨v5,rfl,hs5,hR5⟩
 obtain ⟨a5,q5,c5',rfl⟩:=sl_shape hs5
 have HF:=hidE (rlu_from HK4.out hR5)
 clear hR5 PU HK4 hs5
 go_wp2_with fail
 go_ret
 exact ⟨_,rfl,rfl,HF.out⟩
theorem rcomp_eq (g : Nat) (wv : Value) (all : Ws) (hne : ∀ x ∈ all,x ≠ ⟨#[]⟩) (d : Int) (w : World) (x : List Nd) (ws1 ws2 : Ws) (res : PR) (L0 : Hid (Calls Tryz.prog 36 #[.pointer (some ⟨g,0,none⟩),.int .i64 4] w fun r w' => ∃ v,r = .returned v ∧ isSl v = true ∧ RLu w w' g wv all d (.ok (x,ws1)) v)) (hcons : ws1 = hdW ws1 :: ws2) (L1 : Hid (∀ w n,RD w g wv all n ws2 d 0 → Calls Tryz.prog 36 #[.pointer (some ⟨g,0,none⟩),.int .i64 4] w fun r w' => ∃ v,r = .returned v ∧ isSl v = true ∧ RLu w w' g wv all d (res) v)) (t0 : ((hdW ws1).toList == [60]) = false) (t1 : ((hdW ws1).toList == [62]) = false) (t2 : ((hdW ws1).toList == [60,61]) = false) (t3 : ((hdW ws1).toList == [62,61]) = false) (t4 : ((hdW ws1).toList == [61]) = true) (t5 : ((hdW ws1).toList == [60,62]) = false) (t6 : ((hdW ws1).toList == [105,115]) = false) :
  Calls Tryz.prog 60 #[.pointer (some ⟨g,0,none⟩)] w fun r w' => ∃ v,r = .returned v ∧ isSl v = true ∧ RLu w w' g wv all d (putP 12 x res) v:=by
 go_enter Tryz.func60,Tryz.ntmps60
 go_wp2_with fail
 refine L0.out.mono ?_
 rintro r w1 ⟨v,rfl,hs,hR⟩
 obtain ⟨a,q,c,rfl⟩:=sl_shape hs
 have K1:=hidE hR.1
 obtain ⟨-,n1,hn,hp⟩:=hR
 have NX:=rnext_any g wv all n1 ws1 d 0 w1 hp
 have NX:=hidE NX
 rw [hcons] at hp
 have HP:=hidE hp
 have HN:=hidE hn
 clear hp hn hs L0 hcons
 generalize hdW ws1 = x9 at *
 go_wp2_with fail
 refine NX.out.mono ?_
 rintro r w2 ⟨rfl,hb⟩
 obtain ⟨hlt,c1,f1,hp2,hk2⟩:=rd_step (rd_kept HP.out hb)
 have HK2:=hidE (keptB_trans (keptB_of_below (bad:=fun q => q = g) hb) hk2)
 have HN2:=hidE (nds_kept HN.out HK2.out (fun k e => by omega))
 have HP2:=hidE hp2
 clear hb NX HN HP hk2 hp2
 have LV:=hidE (L1.out _ _ HP2.out)
 clear L1 HP2
 go_wp2_with fail
 refine LV.out.mono ?_
 rintro r w3 ⟨v3,rfl,hs3,hR3⟩
 obtain ⟨a3,q3,c3',rfl⟩:=sl_shape hs3
 have PT:=hidE (rlu_put2 g 12 (by decide) (.slice a q c) (.slice a3 q3 c3') rfl x wv all d _ _ w3 (rlu_nds hR3 HN2.out) hR3)
 have HK3:=hidE (keptB_trans (keptB_trans K1.out HK2.out) hR3.1)
 clear hs3 hR3 LV HK2 HN2 K1
 go_wp2_with fail
 refine PT.out.mono ?_
 rintro r w4 ⟨v4,rfl,hs4,hR4⟩
 obtain ⟨a4,q4,c4',rfl⟩:=sl_shape hs4
 have HF:=hidE (rlu_from HK3.out hR4)
 clear hR4 PT HK3 hs4
 go_wp2_with fail
 go_ret
 exact ⟨_,rfl,rfl,HF.out⟩
theorem rcomp_ne (g : Nat) (wv : Value) (all : Ws) (hne : ∀ x ∈ all,x ≠ ⟨#[]⟩) (d : Int) (w : World) (x : List Nd) (ws1 ws2 : Ws) (res : PR) (L0 : Hid (Calls Tryz.prog 36 #[.pointer (some ⟨g,0,none⟩),.int .i64 4] w fun r w' => ∃ v,r = .returned v ∧ isSl v = true ∧ RLu w w' g wv all d (.ok (x,ws1)) v)) (hcons : ws1 = hdW ws1 :: ws2) (L1 : Hid (∀ w n,RD w g wv all n ws2 d 0 → Calls Tryz.prog 36 #[.pointer (some ⟨g,0,none⟩),.int .i64 4] w fun r w' => ∃ v,r = .returned v ∧ isSl v = true ∧ RLu w w' g wv all d (res) v)) (t0 : ((hdW ws1).toList == [60]) = false) (t1 : ((hdW ws1).toList == [62]) = false) (t2 : ((hdW ws1).toList == [60,61]) = false) (t3 : ((hdW ws1).toList == [62,61]) = false) (t4 : ((hdW ws1).toList == [61]) = false) (t5 : ((hdW ws1).toList == [60,62]) = true) (t6 : ((hdW ws1).toList == [105,115]) = false) :
  Calls Tryz.prog 60 #[.pointer (some ⟨g,0,none⟩)] w fun r w' => ∃ v,r = .returned v ∧ isSl v = true ∧ RLu w w' g wv all d (aheadP 4 (putP 12 x res)) v:=by
 go_enter Tryz.func60,Tryz.ntmps60
 go_wp2_with fail
 refine L0.out.mono ?_
 rintro r w1 ⟨v,rfl,hs,hR⟩
 obtain ⟨a,q,c,rfl⟩:=sl_shape hs
 have K1:=hidE hR.1
 obtain ⟨-,n1,hn,hp⟩:=hR
 have NX:=rnext_any g wv all n1 ws1 d 0 w1 hp
 have NX:=hidE NX
 rw [hcons] at hp
 have HP:=hidE hp
 have HN:=hidE hn
 clear hp hn hs L0 hcons
 generalize hdW ws1 = x9 at *
 go_wp2_with fail
 refine NX.out.mono ?_
 rintro r w2 ⟨rfl,hb⟩
 obtain ⟨hlt,c1,f1,hp2,hk2⟩:=rd_step (rd_kept HP.out hb)
 have HK2:=hidE (keptB_trans (keptB_of_below (bad:=fun q => q = g) hb) hk2)
 have HN2:=hidE (nds_kept HN.out HK2.out (fun k e => by omega))
 have HP2:=hidE hp2
 clear hb NX HN HP hk2 hp2
 have LV:=hidE (L1.out _ _ HP2.out)
 clear L1 HP2
 go_wp2_with fail
 refine LV.out.mono ?_
 rintro r w3 ⟨v3,rfl,hs3,hR3⟩
 obtain ⟨a3,q3,c3',rfl⟩:=sl_shape hs3
 have PT:=hidE (rlu_put2 g 12 (by decide) (.slice a q c) (.slice a3 q3 c3') rfl x wv all d _ _ w3 (rlu_nds hR3 HN2.out) hR3)
 have HK3:=hidE (keptB_trans (keptB_trans K1.out HK2.out) hR3.1)
 clear hs3 hR3 LV HK2 HN2 K1
 go_wp2_with fail
 refine PT.out.mono ?_
 rintro r w4 ⟨v4,rfl,hs4,hR4⟩
 obtain ⟨a4,q4,c4',rfl⟩:=sl_shape hs4
 have PU:=hidE (rlu_put1 g 4 (by decide) (.slice a4 q4 c4') rfl wv all d _ _ w4 hR4)
 have HK4:=hidE (keptB_trans HK3.out hR4.1)
 clear hR4 PT HK3 hs4
 go_wp2_with fail
 refine PU.out.mono ?_
 rintro r w5 ⟨v5,rfl,hs5,hR5⟩
 obtain ⟨a5,q5,c5',rfl⟩:=sl_shape hs5
 have HF:=hidE (rlu_from HK4.out hR5)
 clear hR5 PU HK4 hs5
 go_wp2_with fail
 go_ret
 exact ⟨_,rfl,rfl,HF.out⟩
theorem rcomp_is0 (g : Nat) (wv : Value) (all : Ws) (hne : ∀ x ∈ all,x ≠ ⟨#[]⟩) (d : Int) (w : World) (x : List Nd) (ws1 ws2 : Ws) (L0 : Hid (Calls Tryz.prog 36 #[.pointer (some ⟨g,0,none⟩),.int .i64 4] w fun r w' => ∃ v,r = .returned v ∧ isSl v = true ∧ RLu w w' g wv all d (.ok (x,ws1)) v)) (hcons : ws1 = hdW ws1 :: ws2) (ht : tk wNot ws2 = none) (t0 : ((hdW ws1).toList == [60]) = false) (t1 : ((hdW ws1).toList == [62]) = false) (t2 : ((hdW ws1).toList == [60,61]) = false) (t3 : ((hdW ws1).toList == [62,61]) = false) (t4 : ((hdW ws1).toList == [61]) = false) (t5 : ((hdW ws1).toList == [60,62]) = false) (t6 : ((hdW ws1).toList == [105,115]) = true) :
  Calls Tryz.prog 60 #[.pointer (some ⟨g,0,none⟩)] w fun r w' => ∃ v,r = .returned v ∧ isSl v = true ∧ RLu w w' g wv all d (aheadP 5 (mustR wNull (.ok (x,ws2)))) v:=by
 have HNE:=hidE hne
 have TK:=fun w n hp => rtake_any g wNot (by decide) wv all hne n ws2 d 0 w hp
 unfold RTakeR at TK
 simp only [ht] at TK
 unfold wNot at TK
 have TK:=hidE TK
 clear ht hne
 go_enter Tryz.func60,Tryz.ntmps60
 go_wp2_with fail
 refine L0.out.mono ?_
 rintro r w1 ⟨v,rfl,hs,hR⟩
 obtain ⟨a,q,c,rfl⟩:=sl_shape hs
 have K1:=hidE hR.1
 obtain ⟨-,n1,hn,hp⟩:=hR
 have NX:=rnext_any g wv all n1 ws1 d 0 w1 hp
 have NX:=hidE NX
 rw [hcons] at hp
 have HP:=hidE hp
 have HN:=hidE hn
 clear hp hn hs L0 hcons
 generalize hdW ws1 = x9 at *
 go_wp2_with fail
 refine NX.out.mono ?_
 rintro r w2 ⟨rfl,hb⟩
 obtain ⟨hlt,c1,f1,hp2,hk2⟩:=rd_step (rd_kept HP.out hb)
 have HK2:=hidE (keptB_trans (keptB_of_below (bad:=fun q => q = g) hb) hk2)
 have HN2:=hidE (nds_kept HN.out HK2.out (fun k e => by omega))
 have HP2:=hidE hp2
 clear hb NX HN HP hk2 hp2
 have TK2:=hidE (TK.out _ _ HP2.out)
 clear TK HP2
 go_wp2_with fail
 refine TK2.out.mono ?_
 rintro r w3 ⟨rfl,hk3,hp3⟩
 have HN3:=nds_kept HN2.out hk3 (fun k e => by omega)
 have MU:=hidE (rlu_must g wNull (by decide) (.slice a q c) wv all HNE.out d _ _ w3 (rlu_of HN3 hp3))
 have HK3:=hidE (keptB_trans (keptB_trans K1.out HK2.out) hk3)
 clear hk3 hp3 HN3 HN2 TK2 HK2 K1
 go_wp2_with fail
 refine MU.out.mono ?_
 rintro r w4 ⟨rfl,hR4⟩
 have PT:=hidE (rlu_put1 g 5 (by decide) (.slice a q c) rfl wv all d _ _ w4 hR4)
 have HK4:=hidE (keptB_trans HK3.out hR4.1)
 clear hR4 MU HK3
 go_wp2_with fail
 refine PT.out.mono ?_
 rintro r w5 ⟨v5,rfl,hs5,hR5⟩
 obtain ⟨a5,q5,c5',rfl⟩:=sl_shape hs5
 have HF:=hidE (rlu_from HK4.out hR5)
 clear hR5 PT HK4 hs5
 go_wp2_with fail
 go_ret
 exact ⟨_,rfl,rfl,HF.out⟩
theorem rcomp_is1 (g : Nat) (wv : Value) (all : Ws) (hne : ∀ x ∈ all,x ≠ ⟨#[]⟩) (d : Int) (w : World) (x : List Nd) (ws1 ws2 ws3 : Ws) (L0 : Hid (Calls Tryz.prog 36 #[.pointer (some ⟨g,0,none⟩),.int .i64 4] w fun r w' => ∃ v,r = .returned v ∧ isSl v = true ∧ RLu w w' g wv all d (.ok (x,ws1)) v)) (hcons : ws1 = hdW ws1 :: ws2) (ht : tk wNot ws2 = some ws3) (t0 : ((hdW ws1).toList == [60]) = false) (t1 : ((hdW ws1).toList == [62]) = false) (t2 : ((hdW ws1).toList == [60,61]) = false) (t3 : ((hdW ws1).toList == [62,61]) = false) (t4 : ((hdW ws1).toList == [61]) = false) (t5 : ((hdW ws1).toList == [60,62]) = false) (t6 : ((hdW ws1).toList == [105,115]) = true) :
  Calls Tryz.prog 60 #[.pointer (some ⟨g,0,none⟩)] w fun r w' => ∃ v,r = .returned v ∧ isSl v = true ∧ RLu w w' g wv all d (aheadP 4 (aheadP 5 (mustR wNull (.ok (x,ws3))))) v:=by
 have HNE:=hidE hne
 have TK:=fun w n hp => rtake_any g wNot (by decide) wv all hne n ws2 d 0 w hp
 unfold RTakeR at TK
 simp only [ht] at TK
 unfold wNot at TK
 have TK:=hidE TK
 clear ht hne
 go_enter Tryz.func60,Tryz.ntmps60
 go_wp2_with fail
 refine L0.out.mono ?_
 rintro r w1 ⟨v,rfl,hs,hR⟩
 obtain ⟨a,q,c,rfl⟩:=sl_shape hs
 have K1:=hidE hR.1
 obtain ⟨-,n1,hn,hp⟩:=hR
 have NX:=rnext_any g wv all n1 ws1 d 0 w1 hp
 have NX:=hidE NX
 rw [hcons] at hp
 have HP:=hidE hp
 have HN:=hidE hn
 clear hp hn hs L0 hcons
 generalize hdW ws1 = x9 at *
 go_wp2_with fail
 refine NX.out.mono ?_
 rintro r w2 ⟨rfl,hb⟩
 obtain ⟨hlt,c1,f1,hp2,hk2⟩:=rd_step (rd_kept HP.out hb)
 have HK2:=hidE (keptB_trans (keptB_of_below (bad:=fun q => q = g) hb) hk2)
 have HN2:=hidE (nds_kept HN.out HK2.out (fun k e => by omega))
 have HP2:=hidE hp2
 clear hb NX HN HP hk2 hp2
 have TK2:=hidE (TK.out _ _ HP2.out)
 clear TK HP2
 go_wp2_with fail
 refine TK2.out.mono ?_
 rintro r w3 ⟨rfl,hk3,hp3⟩
 have HN3:=nds_kept HN2.out hk3 (fun k e => by omega)
 have MU:=hidE (rlu_must g wNull (by decide) (.slice a q c) wv all HNE.out d _ _ w3 (rlu_of HN3 hp3))
 have HK3:=hidE (keptB_trans (keptB_trans K1.out HK2.out) hk3)
 clear hk3 hp3 HN3 HN2 TK2 HK2 K1
 go_wp2_with fail
 refine MU.out.mono ?_
 rintro r w4 ⟨rfl,hR4⟩
 have PT:=hidE (rlu_put1 g 5 (by decide) (.slice a q c) rfl wv all d _ _ w4 hR4)
 have HK4:=hidE (keptB_trans HK3.out hR4.1)
 clear hR4 MU HK3
 go_wp2_with fail
 refine PT.out.mono ?_
 rintro r w5 ⟨v5,rfl,hs5,hR5⟩
 obtain ⟨a5,q5,c5',rfl⟩:=sl_shape hs5
 have PU:=hidE (rlu_put1 g 4 (by decide) (.slice a5 q5 c5') rfl wv all d _ _ w5 hR5)
 have HK5:=hidE (keptB_trans HK4.out hR5.1)
 clear hR5 PT HK4 hs5
 go_wp2_with fail
 refine PU.out.mono ?_
 rintro r w6 ⟨v6,rfl,hs6,hR6⟩
 obtain ⟨a6,q6,c6',rfl⟩:=sl_shape hs6
 have HF:=hidE (rlu_from HK5.out hR6)
 clear hR6 PU HK5 hs6
 go_wp2_with fail
 go_ret
 exact ⟨_,rfl,rfl,HF.out⟩
theorem compare_bad0 (gp gm : Nat) (d e : Int) (R : Prop) (w : World) (h : Calls Tryz.prog 125 #[.pointer (some ⟨gp,0,none⟩)] w fun r w' => R ∧ ErrX w w' gp gm d e r) :
  Calls Tryz.prog 118 #[.pointer (some ⟨gp,0,none⟩)] w fun r w' => R ∧ ErrX w w' gp gm d e r:=by
 have SU:=hidE h
 have TKH:=hidE (fun wv w hp => px_no gp gm wIs (by decide) wv [] d e w hp rfl)
 have TSH:=hidE (fun wv w hp => px_sign gp gm 2 wv [] d e w hp rfl)
 clear h
 go_enter Tryz.func118,Tryz.ntmps118
 go_wp2_with fail
 refine SU.out.mono ?_
 rintro r w1 ⟨hR,hk1,v1,wv1,rfl,hs1,hp1⟩
 have S1:=hidE hs1
 have HR:=hidE hR
 have K1:=hidE hk1
 have TK:=hidE (TKH.out wv1 w1 hp1)
 clear hk1 hp1 hs1 SU TKH hR
 go_wp2_with fail
 refine TK.out.mono ?_
 rintro r w2 ⟨rfl,hk2,hp2⟩
 have K2:=hidE (keptB_trans K1.out hk2)
 have TS:=hidE (TSH.out wv1 w2 hp2)
 clear hk2 hp2 TK K1 TSH
 go_wp2_with fail
 refine TS.out.mono ?_
 rintro r w3 ⟨rfl,hk3,hp3⟩
 have ba:=below_alloc w3 (.cells #[.int .i64 0,.int .i64 0,.bool false,.bool false] 96)
 have K3:=hidE (keptB_trans K2.out (keptB_trans hk3 (keptB_of_below ba)))
 have P3:=hidE (px_below hp3 ba)
 clear hk3 hp3 TS K2 ba
 go_wp2_with fail
 go_ret
 exact ⟨HR.out,errX_of K3.out P3.out S1.out⟩
theorem compare_bad (gp gm : Nat) (d e : Int) (w : World) (h : Calls Tryz.prog 125 #[.pointer (some ⟨gp,0,none⟩)] w fun r w' => ErrX w w' gp gm d e r) :
  Calls Tryz.prog 118 #[.pointer (some ⟨gp,0,none⟩)] w fun r w' => ErrX w w' gp gm d e r:=(compare_bad0 gp gm d e True w (h.mono fun r w' h9 => ⟨trivial,h9⟩)).mono fun r w' h9 => h9.2
theorem compare_err (gp gm : Nat) (d c : Int) (w : World) (h : Calls Tryz.prog 125 #[.pointer (some ⟨gp,0,none⟩)] w fun r w' => PXR w w' gp gm d (.error c) r) :
  Calls Tryz.prog 118 #[.pointer (some ⟨gp,0,none⟩)] w fun r w' => PXR w w' gp gm d (.error c) r:=by
 refine (compare_bad0 gp gm d c (c ≠ 0) w (h.mono fun r w' ⟨hk,v,wv',e9,hc,hp⟩ => ⟨hc.1,hk,v,wv',e9,hc.2,hp⟩)).mono ?_
 rintro r w' ⟨hc,hk,v,wv',rfl,hs,hp⟩
 exact pxr_err hk ⟨hc,hs⟩ hp
theorem compare_is (gp gm : Nat) (d : Int) (w : World) (x : List Nd) (ws ws1 : Ws) (ht : tk wIs ws = some ws1) (h : Calls Tryz.prog 125 #[.pointer (some ⟨gp,0,none⟩)] w fun r w' => PXR w w' gp gm d (.ok (x,ws)) r) :
  Calls Tryz.prog 118 #[.pointer (some ⟨gp,0,none⟩)] w fun r w' => PXR w w' gp gm d (isP x ws1) r:=by
 have SU:=hidE h
 have TKH:=hidE (fun wv w hp => px_yes gp gm wIs (by decide) wv ws ws1 d 0 w hp ht)
 clear h ht
 go_enter Tryz.func118,Tryz.ntmps118
 go_wp2_with fail
 refine SU.out.mono ?_
 rintro r w1 ⟨hk1,v1,wv1,rfl,hn1,hp1⟩
 have K1:=hidE hk1
 have TK:=hidE (TKH.out wv1 w1 hp1)
 have N1:=hidE hn1
 have hlt:=hp1.ps.bd.lt
 clear hk1 hp1 hn1 SU TKH
 go_wp2_with fail
 refine TK.out.mono ?_
 rintro r w2 ⟨rfl,hk2,wv2,hp2⟩
 have K2:=hidE (keptB_trans K1.out hk2)
 have IS:=hidE (isNull_any gp gm v1 wv2 x ws1 d w2 hp2 (nds_kept N1.out hk2 (fun q e9 => by omega)))
 clear hk2 hp2 TK K1 N1
 go_wp2_with fail
 refine IS.out.mono ?_
 intro r w3 h3
 have F3:=hidE (pxr_kept K2.out h3)
 obtain ⟨v3,rfl⟩:=pxr_ret h3
 clear h3 IS K2
 go_wp2_with fail
 go_ret
 exact F3.out
theorem compare_none (gp gm : Nat) (d : Int) (w : World) (x : List Nd) (ws : Ws) (ht : tk wIs ws = none) (hts : tkS 2 ws = none) (h : Calls Tryz.prog 125 #[.pointer (some ⟨gp,0,none⟩)] w fun r w' => PXR w w' gp gm d (.ok (x,ws)) r) :
  Calls Tryz.prog 118 #[.pointer (some ⟨gp,0,none⟩)] w fun r w' => PXR w w' gp gm d (.ok (x,ws)) r:=by
 have SU:=hidE h
 have TKH:=hidE (fun wv w hp => px_no gp gm wIs (by decide) wv ws d 0 w hp ht)
 have TSH:=hidE (fun wv w hp => px_sign gp gm 2 wv ws d 0 w hp hts)
 clear h ht hts
 go_enter Tryz.func118,Tryz.ntmps118
 go_wp2_with fail
 refine SU.out.mono ?_
 rintro r w1 ⟨hk1,v1,wv1,rfl,hn1,hp1⟩
 have K1:=hidE hk1
 have TK:=hidE (TKH.out wv1 w1 hp1)
 have N1:=hidE hn1
 clear hk1 hp1 hn1 SU TKH
 go_wp2_with fail
 refine TK.out.mono ?_
 rintro r w2 ⟨rfl,hk2,hp2⟩
 have K2:=hidE (keptB_trans K1.out hk2)
 have N2:=hidE (nds_kept N1.out hk2 (fun q e9 => by omega))
 have TS:=hidE (TSH.out wv1 w2 hp2)
 clear hk2 hp2 TK K1 TSH N1
 go_wp2_with fail
 refine TS.out.mono ?_
 rintro r w3 ⟨rfl,hk3,hp3⟩
 have ba:=below_alloc w3 (.cells #[.int .i64 0,.int .i64 0,.bool false,.bool false] 96)
 have K3:=hidE (keptB_trans K2.out (keptB_trans hk3 (keptB_of_below ba)))
 have P3:=hidE (px_below hp3 ba)
 have N3:=hidE (nds_grown (nds_kept N2.out hk3 (fun q e9 => by omega)) ba)
 clear hk3 hp3 TS K2 ba N2
 go_wp2_with fail
 go_ret
 exact pxr_ok K3.out N3.out P3.out
theorem compare_sign (gp gm : Nat) (d : Int) (w : World) (x : List Nd) (s : Sg) (ws ws1 : Ws) (ht : tk wIs ws = none) (hts : tkS 2 ws = some (s,ws1)) (h : Calls Tryz.prog 125 #[.pointer (some ⟨gp,0,none⟩)] w fun r w' => PXR w w' gp gm d (.ok (x,ws)) r)
  (T TT : PR) (hTe : ∀ c,T = .error c → TT = .error c) (hTo : ∀ y ws2,T = .ok (y,ws2) → TT = wth ws2 (jnS s x y))
  (HI : ∀ wv w,PX w gp gm wv ws1 d 0 → Calls Tryz.prog 125 #[.pointer (some ⟨gp,0,none⟩)] w fun r w' => PXR w w' gp gm d T r) :
  Calls Tryz.prog 118 #[.pointer (some ⟨gp,0,none⟩)] w fun r w' => PXR w w' gp gm d TT r:=by
 have SU:=hidE h
 have TKH:=hidE (fun wv w hp => px_no gp gm wIs (by decide) wv ws d 0 w hp ht)
 have TSH:=hidE (fun wv w hp => px_signY gp gm 2 wv ws ws1 s d 0 w hp hts)
 have h2:=hidE (tkS_two hts)
 have HTE:=hidE hTe
 have HTO:=hidE hTo
 have HIH:=hidE HI
 clear h ht hts hTe hTo HI
 go_enter Tryz.func118,Tryz.ntmps118
 go_wp2_with fail
 refine SU.out.mono ?_
 rintro r w1 ⟨hk1,u3,wv1,rfl,hn1,hp1⟩
 have K1:=hidE hk1
 have TK:=hidE (TKH.out wv1 w1 hp1)
 have N1:=hidE hn1
 clear hk1 hp1 hn1 SU TKH
 go_wp2_with fail
 refine TK.out.mono ?_
 rintro r w2 ⟨rfl,hk2,hp2⟩
 have K2:=hidE (keptB_trans K1.out hk2)
 have N2:=hidE (nds_kept N1.out hk2 (fun q e9 => by omega))
 have TS:=hidE (TSH.out wv1 w2 hp2)
 clear hk2 hp2 TK K1 TSH N1
 go_wp2_with fail
 refine TS.out.mono ?_
 rintro r w3 ⟨rfl,hk3,wv3,hp3⟩
 have BA:=hidE (below_alloc w3 (.cells #[.int .i64 s.rank,.int .i64 s.op,.bool s.turned,.bool s.denied] 96))
 have BL:=hidE (blk_alloc w3 [.int .i64 s.rank,.int .i64 s.op,.bool s.turned,.bool s.denied] 96)
 have P3:=hidE (px_below hp3 BA.out)
 have K3:=hidE (keptB_trans K2.out (keptB_trans hk3 (keptB_of_below BA.out)))
 have N3:=hidE (nds_grown (nds_kept N2.out hk3 (fun q e9 => by omega)) BA.out)
 have hg3:=hp3.ps.bd.lt
 clear hk3 hp3 TS K2 N2
 go_wp2_with fail
 generalize hg8 : w3.heap.size = g8 at *
 generalize w3.alloc (.cells #[.int .i64 s.rank,.int .i64 s.op,.bool s.turned,.bool s.denied] 96) = w4 at *
 have l8:=BL.out.lt
 have n8 : ¬ g8 = gp:=by omega
 have y0:=BL.out.c 0 (by simp)
 have y1:=BL.out.c 1 (by simp)
 have y2:=BL.out.c 2 (by simp)
 have y3:=BL.out.c 3 (by simp)
 simp only [List.getElem?_cons_zero,List.getElem?_cons_succ] at y0 y1 y2 y3
 have dd : Below w4.heap.size w4 ({ w4 with drawn:=w4.drawn + 1 } : World):=(Below.refl _ _).drew
 have HIN:=hidE (HIH.out wv3 _ (px_below P3.out dd))
 have hS : KeptB w4 ({ w4 with drawn:=w4.drawn + 1 } : World) (fun q => q = gp):=keptB_of_below dd
 have N4:=hidE (nds_grown N3.out dd)
 clear dd BA BL P3 N3
 refine wp_region_held (S:=fun w' => KeptB w4 w' (fun q => q = gp)) (by kernel_rfl) ?_
 generalize ({ w4 with drawn:=w4.drawn + 1 } : World) = wd at *
 refine held_take (i:=0) (v:=.pointer (some ⟨gp,0,none⟩)) (L:=#[true,false,false,false,false,false,false]) rfl (by kernel_rfl) (by kernel_rfl) (by kernel_rfl) (fun c a w h => h) (Or.inl ⟨by kernel_rfl,fun wq hq => by go_simp⟩) hS (by kernel_rfl) ?_
 refine held_take (i:=1) (v:=.agg #[.int .i64 s.rank,.int .i64 s.op,.bool s.turned,.bool s.denied]) (L:=#[true,true,false,false,false,false,false]) rfl (by kernel_rfl) (by kernel_rfl) (by kernel_rfl) (fun c a w h => h) (Or.inl ⟨by kernel_rfl,fun wq hq => by have q0:=(kept_cell hq 0 l8 n8).trans y0;have q1:=(kept_cell hq 1 l8 n8).trans y1;have q2:=(kept_cell hq 2 l8 n8).trans y2;have q3:=(kept_cell hq 3 l8 n8).trans y3;go_simp⟩) hS (by kernel_rfl) ?_
 refine held_take (i:=2) (v:=u3) (L:=#[true,true,true,false,false,false,false]) rfl (by kernel_rfl) (by kernel_rfl) (by kernel_rfl) (fun c a w h => h) (Or.inl ⟨by kernel_rfl,fun wq hq => by go_simp⟩) hS (by kernel_rfl) ?_
 refine held_take (i:=3) (v:=.pointer (some ⟨gp,0,none⟩)) (L:=#[true,true,true,true,false,false,false]) rfl (by kernel_rfl) (by kernel_rfl) (by kernel_rfl) (fun c a w h => h) (Or.inl ⟨by kernel_rfl,fun wq hq => by go_simp⟩) hS (by kernel_rfl) ?_
 refine held_go (i:=4) (L:=#[true,true,true,true,true,false,false]) (by kernel_rfl) rfl (by kernel_rfl) (by kernel_rfl) ?_
 intro K' hK
 go_simp
 refine HIN.out.mono ?_
 rintro e w4 ⟨hk4,hr4⟩
 have hS4:=keptB_trans hS hk4
 have hst : ∃ v4,e = .returned v4 ∧ ∀ v5,v5 = v4 → Calls Tryz.prog 99 #[.pointer (some ⟨gp,0,none⟩),.agg #[.int .i64 s.rank,.int .i64 s.op,.bool s.turned,.bool s.denied],u3,v4] w4 fun e w5 => ∃ v6,e = .returned v6 ∧ PXR w4 w5 gp gm d TT (.returned v6):=by
  cases T with
  | error c =>
   obtain ⟨v4,wv4,e9,hc,hp4⟩:=hr4
   refine ⟨v4,e9,fun v5 _ => ?_⟩
   refine (joinBy_err gp gm s u3 v4 wv4 [] d c hc.1 w4 hp4.ps).mono ?_
   rintro e5 w5 ⟨hk5,v6,wv6,e6,hs6,hp6⟩
   refine ⟨v6,e6,?_⟩
   rw [HTE.out c rfl]
   exact pxr_err hk5 ⟨hc.1,hs6⟩ (px_err hp4 hk5 hp6)
  | ok p4 =>
   obtain ⟨y,ws2⟩:=p4
   obtain ⟨v4,wv4,e9,hn4,hp4⟩:=hr4
   refine ⟨v4,e9,fun v5 _ => ?_⟩
   refine (joinBy_ok gp gm s h2.out u3 v4 wv4 x y ws2 d w4 hp4.ps (nds_kept N4.out hk4 (fun q e9 => by omega)) hn4).mono ?_
   intro e5 w5 h5
   have h6:=pxr_of (w0:=w4) hp4 (fun y hy => hy) h5
   rw [← HTO.out y ws2 rfl] at h6
   obtain ⟨v6,rfl⟩:=pxr_ret h6
   exact ⟨v6,rfl,h6⟩
 obtain ⟨v4,rfl,hjb⟩:=hst
 have JB:=hidE (hjb v4 rfl)
 clear HIN hr4 hk4 hjb
 refine hK _ _ ⟨hS4,?_⟩
 clear hK
 refine held_go (i:=5) (L:=#[true,true,true,true,true,true,false]) (by kernel_rfl) rfl (by kernel_rfl) (by kernel_rfl) ?_
 intro K' hK
 go_simp
 refine JB.out.mono ?_
 rintro e w5 ⟨v6,rfl,h5⟩
 have hS5:=keptB_trans hS4 h5.1
 have F5:=hidE h5
 clear JB h5
 refine hK _ _ ⟨hS5,?_⟩
 clear hK
 refine held_go (i:=6) (L:=#[true,true,true,true,true,true,true]) (by kernel_rfl) rfl (by kernel_rfl) (by kernel_rfl) ?_
 intro K' hK
 go_simp
 refine hK _ _ ⟨hS5,?_⟩
 clear hK
 refine wpAnyH_done (by kernel_rfl) ?_ _
 have K5:=hidE (keptB_trans K3.out hS4)
 clear hS hS4 hS5 y0 y1 y2 y3
 go_wp2_with fail
 go_ret
 exact pxr_kept K5.out F5.out
theorem compare_x (f gp gm : Nat) (wv : Value) (ws : Ws) (d : Nat) (hd : d ≤ 12) (w : World) (h : PX w gp gm wv ws (d : Int) 0) (hT : lev (f + 1) 3 ws d ≠ .error 99)
  (H2 : ∀ wv ws w (d : Nat),d ≤ 12 → PX w gp gm wv ws (d : Int) 0 → lev f 4 ws d ≠ .error 99 → Calls Tryz.prog 125 #[.pointer (some ⟨gp,0,none⟩)] w fun r w' => PXR w w' gp gm (d : Int) (lev f 4 ws d) r) :
  Calls Tryz.prog 118 #[.pointer (some ⟨gp,0,none⟩)] w fun r w' => PXR w w' gp gm (d : Int) (lev (f + 1) 3 ws d) r:=by
 have e : lev (f + 1) 3 ws d = (match lev f 4 ws d with | .error c => .error c | .ok (x,ws1) => cmpP (fun ws => lev f 4 ws d) x ws1):=rfl
 rw [e] at hT ⊢
 cases hs : lev f 4 ws d with
 | error c =>
  rw [hs] at hT
  have h9:=H2 wv ws w d hd h (by rw [hs];exact hT)
  rw [hs] at h9
  show Calls _ _ _ _ fun r w' => PXR w w' gp gm (d : Int) (.error c) r
  exact compare_err gp gm (d : Int) c w h9
 | ok p =>
  obtain ⟨x,ws1⟩:=p
  rw [hs] at hT
  have h9:=H2 wv ws w d hd h (by rw [hs];simp)
  rw [hs] at h9
  show Calls _ _ _ _ fun r w' => PXR w w' gp gm (d : Int) (cmpP (fun ws => lev f 4 ws d) x ws1) r
  cases ht : tk wIs ws1 with
  | some ws2 =>
   have e2 : cmpP (fun ws => lev f 4 ws d) x ws1 = isP x ws2:=by unfold cmpP;rw [ht]
   rw [e2]
   exact compare_is gp gm (d : Int) w x ws1 ws2 ht h9
  | none =>
   cases hts : tkS 2 ws1 with
   | none =>
    have e2 : cmpP (fun ws => lev f 4 ws d) x ws1 = .ok (x,ws1):=by unfold cmpP;rw [ht];simp only [hts]
    rw [e2]
    exact compare_none gp gm (d : Int) w x ws1 ht hts h9
   | some p =>
    obtain ⟨s,ws2⟩:=p
    have e2 : cmpP (fun ws => lev f 4 ws d) x ws1 = (match lev f 4 ws2 d with | .error c => .error c | .ok (y,ws3) => wth ws3 (jnS s x y)):=by unfold cmpP;rw [ht];simp only [hts];cases lev f 4 ws2 d <;> rfl
    have hne : lev f 4 ws2 d ≠ .error 99:=fun e9 => hT (by show cmpP _ x ws1 = _;rw [e2,e9])
    exact compare_sign gp gm (d : Int) w x s ws1 ws2 ht hts h9 (lev f 4 ws2 d) _ (fun c e9 => by rw [e2,e9]) (fun y ws3 e9 => by rw [e2,e9]) (fun wv w hp => H2 wv ws2 w d hd hp hne)
theorem compare_e (gp gm : Nat) (wv : Value) (d e : Int) (w : World) (h : PX w gp gm wv [] d e)
  (H2 : ∀ wv w,PX w gp gm wv [] d e → Calls Tryz.prog 125 #[.pointer (some ⟨gp,0,none⟩)] w fun r w' => ErrX w w' gp gm d e r) :
  Calls Tryz.prog 118 #[.pointer (some ⟨gp,0,none⟩)] w fun r w' => ErrX w w' gp gm d e r:=compare_bad gp gm d e w (H2 wv w h)
end Go.Proofs.YteaanpdckkmjoaaGreatDoor

/- Own texts in one. Conditions: as named in each. -/
import Derived.Test.YtcgjflamgnjhcaaGreatDoorBtJJ
import Derived.Test.YtcgjflamgnjhcaaGreatDoorWinPureJ
import Derived.Test.YtcgjflamgnjhcaaGreatDoorKinJ
import Derived.Test.YtcgjflamgnjhcaaGreatDoorEnFJ
import Derived.Test.YtcgjflamgnjhcaaGreatDoorClock1J
import Derived.Test.YtcgjflamgnjhcaaGreatDoorEnX5J
import Derived.Test.YtcgjflamgnjhcaaGreatDoorEnWJ
import Derived.Test.YtcgjflamgnjhcaaGreatDoorEnQJ
set_option linter.unusedVariables false
set_option linter.unusedSimpArgs false
set_option maxRecDepth 100000
set_option maxHeartbeats 8000000
namespace Go.Proofs.YtcgjflamgnjhcaaGreatDoor
open Go.ChangeShapes Go.WideShapes Go.ChangeAt Go.RowKit
def qz (s:ByteArray) (w:World) (r:Ending) (w':World):Prop:=Below w.heap.size w w'∧(r=.returned (.tuple #[qzV,.bool false])∨∃ q va vw vb ps,dZ s=.ok q∧r=.returned (.tuple #[qyV va vw vb q,.bool true])∧QyO w' w.heap.size va vw vb q ps)
theorem asked_long (s:ByteArray) (w:World) (hs:400 < s.size):Calls Tryz.prog 25 #[.string s] w fun r w'=>qz s w r w':=by
 have ba:=aj w (.cells #[.slice none 0 0,.slice none 0 0,.slice none 0 0,.int .i64 0,.int .i64 0,.int .i64 0,.int .i64 0] 28);have BA:=aa ba;have BR:=aa (az w [.slice none 0 0,.slice none 0 0,.slice none 0 0,.int .i64 0,.int .i64 0,.int .i64 0,.int .i64 0] 28);have TR:=aa (dB w #[.slice none 0 0,.slice none 0 0,.slice none 0 0,.int .i64 0,.int .i64 0,.int .i64 0,.int .i64 0] 28);have h4:(400:Int) < (s.size:Int):=by omega
 generalize hw0:(w.alloc (.cells #[.slice none 0 0,.slice none 0 0,.slice none 0 0,.int .i64 0,.int .i64 0,.int .i64 0,.int .i64 0] 28))=w0 at *;have f0:=BR.out.fz 0;have y0:=BR.out.c 0 (by simp);have f1:=BR.out.fz 1;have y1:=BR.out.c 1 (by simp);have f2:=BR.out.fz 2;have y2:=BR.out.c 2 (by simp);have f3:=BR.out.fz 3;have y3:=BR.out.c 3 (by simp);have f4:=BR.out.fz 4;have y4:=BR.out.c 4 (by simp);have f5:=BR.out.fz 5;have y5:=BR.out.c 5 (by simp);have f6:=BR.out.fz 6;have y6:=BR.out.c 6 (by simp);simp only [List.getElem?_cons_zero,List.getElem?_cons_succ] at y0 y1 y2 y3 y4 y5 y6;have Z:=aa (show BlkAt (((((((w0.setCell ⟨w.heap.size,0,none⟩ (.slice none 0 0)).setCell ⟨w.heap.size,1,none⟩ (.slice none 0 0)).setCell ⟨w.heap.size,2,none⟩ (.slice none 0 0)).setCell ⟨w.heap.size,3,none⟩ (.int .i64 0)).setCell ⟨w.heap.size,4,none⟩ (.int .i64 0)).setCell ⟨w.heap.size,5,none⟩ (.int .i64 0)).setCell ⟨w.heap.size,6,none⟩ (.int .i64 0)) w.heap.size [.slice none 0 0,.slice none 0 0,.slice none 0 0,.int .i64 0,.int .i64 0,.int .i64 0,.int .i64 0] by simpa using (ay (ay (ay (ay (ay (ay (ay BR.out 0 (.slice none 0 0) (by simp)) 1 (.slice none 0 0) (by simp)) 2 (.slice none 0 0) (by simp)) 3 (.int .i64 0) (by simp)) 4 (.int .i64 0) (by simp)) 5 (.int .i64 0) (by simp)) 6 (.int .i64 0) (by simp)));have KG:Hid (KeptB w0 (((((((w0.setCell ⟨w.heap.size,0,none⟩ (.slice none 0 0)).setCell ⟨w.heap.size,1,none⟩ (.slice none 0 0)).setCell ⟨w.heap.size,2,none⟩ (.slice none 0 0)).setCell ⟨w.heap.size,3,none⟩ (.int .i64 0)).setCell ⟨w.heap.size,4,none⟩ (.int .i64 0)).setCell ⟨w.heap.size,5,none⟩ (.int .i64 0)).setCell ⟨w.heap.size,6,none⟩ (.int .i64 0)) (fun q=>q=w.heap.size)):=(ah (ah (ah (ah (ah (ah (ah (ae (bad:=fun q=>q=w.heap.size) (Below.refl w0.heap.size w0)) rfl 0 _) rfl 1 _) rfl 2 _) rfl 3 _) rfl 4 _) rfl 5 _) rfl 6 _);clear ba BR hs
 go_enter Tryz.func25,Tryz.ntmps25
 go_wp2_with fail;generalize (((((((w0.setCell ⟨w.heap.size,0,none⟩ (.slice none 0 0)).setCell ⟨w.heap.size,1,none⟩ (.slice none 0 0)).setCell ⟨w.heap.size,2,none⟩ (.slice none 0 0)).setCell ⟨w.heap.size,3,none⟩ (.int .i64 0)).setCell ⟨w.heap.size,4,none⟩ (.int .i64 0)).setCell ⟨w.heap.size,5,none⟩ (.int .i64 0)).setCell ⟨w.heap.size,6,none⟩ (.int .i64 0))=wz at *;have z0:=Z.out.c 0 (by simp);have z1:=Z.out.c 1 (by simp);have z2:=Z.out.c 2 (by simp);have z3:=Z.out.c 3 (by simp);have z4:=Z.out.c 4 (by simp);have z5:=Z.out.c 5 (by simp);have z6:=Z.out.c 6 (by simp);simp only [List.getElem?_cons_zero,List.getElem?_cons_succ] at z0 z1 z2 z3 z4 z5 z6;refine bodyPost_ret (v:=.tuple #[.agg #[.slice none 0 0,.slice none 0 0,.slice none 0 0,.int .i64 0,.int .i64 0,.int .i64 0,.int .i64 0],.bool false]) (by simp [results,Tryz.results25,go_sem,z0,z1,z2,z3,z4,z5,z6]) rfl ?_;exact ⟨aL (cO (gp:=w.heap.size) (ae BA.out) KG.out (Nat.le_refl _)) (Nat.le_refl _) (fun k e=>by omega),.inl rfl⟩
theorem asked_bad (s:ByteArray) (w:World) (ht:TabQ w) (hs:s.size≤400) (c:Int) (hp:dZ s=.error c):Calls Tryz.prog 25 #[.string s] w fun r w'=>qz s w r w':=by
 have ba:=aj w (.cells #[.slice none 0 0,.slice none 0 0,.slice none 0 0,.int .i64 0,.int .i64 0,.int .i64 0,.int .i64 0] 28);have BA:=aa ba;have BR:=aa (az w [.slice none 0 0,.slice none 0 0,.slice none 0 0,.int .i64 0,.int .i64 0,.int .i64 0,.int .i64 0] 28);have TR:=aa (dB w #[.slice none 0 0,.slice none 0 0,.slice none 0 0,.int .i64 0,.int .i64 0,.int .i64 0,.int .i64 0] 28);have h4:¬ (400:Int) < (s.size:Int):=by omega
 have PA:=ji s _ (ht.below ba);unfold jU at PA;rw [hp] at PA
 simp only at PA
 have PAH:=aa PA;have e9:(w.alloc (.cells #[.slice none 0 0,.slice none 0 0,.slice none 0 0,.int .i64 0,.int .i64 0,.int .i64 0,.int .i64 0] 28)).heap.size=w.heap.size+1:=by simp
 have HE9:=aa e9;clear PA ba ht hs e9
 go_enter Tryz.func25,Tryz.ntmps25
 go_wp2_with fail;generalize (w.alloc (.cells #[.slice none 0 0,.slice none 0 0,.slice none 0 0,.int .i64 0,.int .i64 0,.int .i64 0,.int .i64 0] 28))=w0 at *;refine PAH.out.mono ?_;rintro r w1 ⟨hb,rfl,hc⟩;unfold qzV;rw [bP hc];clear hc;have B1:=aa (BA.out.trans (hb.mono BA.out.size));have BR1:=aa (ai BR.out hb BR.out.lt);have TR1:=aa (aT TR.out (ae (bad:=fun _=>False) hb) id);have lr1:=BR1.out.lt;have bv:=aj w1 (.cells #[.slice none 0 0,.slice none 0 0,.slice none 0 0,.int .i64 0,.int .i64 0,.int .i64 0,.int .i64 0] 28);have BV:=aa (az w1 [.slice none 0 0,.slice none 0 0,.slice none 0 0,.int .i64 0,.int .i64 0,.int .i64 0,.int .i64 0] 28);have B2:=aa (B1.out.trans (bv.mono B1.out.size));have BR2:=aa (ai BR1.out bv lr1);have TR2:=aa (aT TR1.out (ae (bad:=fun _=>False) bv) id);clear hb bv PAH BR TR BR1 TR1 B1 BA;go_wp2_with fail;generalize hgv:w1.heap.size=gv at *;generalize w1.alloc (.cells #[.slice none 0 0,.slice none 0 0,.slice none 0 0,.int .i64 0,.int .i64 0,.int .i64 0,.int .i64 0] 28)=w2 at *;have d0:=BV.out.c 0 (by simp);have d1:=BV.out.c 1 (by simp);have d2:=BV.out.c 2 (by simp);have d3:=BV.out.c 3 (by simp);have d4:=BV.out.c 4 (by simp);have d5:=BV.out.c 5 (by simp);have d6:=BV.out.c 6 (by simp);simp only [List.getElem?_cons_zero,List.getElem?_cons_succ] at d0 d1 d2 d3 d4 d5 d6;have lv:=BV.out.lt;have nv:¬ gv=w.heap.size:=by omega
 have dd:Below w2.heap.size w2 ({ w2 with drawn:=w2.drawn+1 }:World):=(Below.refl _ _).drew;have hS:KeptB w2 ({ w2 with drawn:=w2.drawn+1 }:World) (fun q=>q=w.heap.size):=ae dd;have BR3:=aa (ai BR2.out dd BR2.out.lt);have TR3:=aa (aT TR2.out (ae (bad:=fun _=>False) dd) id);have B3:=aa (B2.out.trans (dd.mono B2.out.size));have DD:=aa dd;clear dd BR2 TR2 B2 BV;refine wp_region_held (S:=fun w'=>KeptB w2 w' (fun q=>q=w.heap.size)) (by kernel_rfl) ?_;generalize ({ w2 with drawn:=w2.drawn+1 }:World)=wd at *;have f0:=BR3.out.fz 0;have y0:=BR3.out.c 0 (by simp);have f1:=BR3.out.fz 1;have y1:=BR3.out.c 1 (by simp);have f2:=BR3.out.fz 2;have y2:=BR3.out.c 2 (by simp);have f3:=BR3.out.fz 3;have y3:=BR3.out.c 3 (by simp);have f4:=BR3.out.fz 4;have y4:=BR3.out.c 4 (by simp);have f5:=BR3.out.fz 5;have y5:=BR3.out.c 5 (by simp);have f6:=BR3.out.fz 6;have y6:=BR3.out.c 6 (by simp);simp only [List.getElem?_cons_zero,List.getElem?_cons_succ] at y0 y1 y2 y3 y4 y5 y6;have Z:=aa (show BlkAt (((((((wd.setCell ⟨w.heap.size,0,none⟩ (.slice none 0 0)).setCell ⟨w.heap.size,1,none⟩ (.slice none 0 0)).setCell ⟨w.heap.size,2,none⟩ (.slice none 0 0)).setCell ⟨w.heap.size,3,none⟩ (.int .i64 0)).setCell ⟨w.heap.size,4,none⟩ (.int .i64 0)).setCell ⟨w.heap.size,5,none⟩ (.int .i64 0)).setCell ⟨w.heap.size,6,none⟩ (.int .i64 0)) w.heap.size [.slice none 0 0,.slice none 0 0,.slice none 0 0,.int .i64 0,.int .i64 0,.int .i64 0,.int .i64 0] by simpa using (ay (ay (ay (ay (ay (ay (ay BR3.out 0 (.slice none 0 0) (by simp)) 1 (.slice none 0 0) (by simp)) 2 (.slice none 0 0) (by simp)) 3 (.int .i64 0) (by simp)) 4 (.int .i64 0) (by simp)) 5 (.int .i64 0) (by simp)) 6 (.int .i64 0) (by simp)));have KG:Hid (KeptB wd (((((((wd.setCell ⟨w.heap.size,0,none⟩ (.slice none 0 0)).setCell ⟨w.heap.size,1,none⟩ (.slice none 0 0)).setCell ⟨w.heap.size,2,none⟩ (.slice none 0 0)).setCell ⟨w.heap.size,3,none⟩ (.int .i64 0)).setCell ⟨w.heap.size,4,none⟩ (.int .i64 0)).setCell ⟨w.heap.size,5,none⟩ (.int .i64 0)).setCell ⟨w.heap.size,6,none⟩ (.int .i64 0)) (fun q=>q=w.heap.size)):=(ah (ah (ah (ah (ah (ah (ah (ae (bad:=fun q=>q=w.heap.size) (Below.refl wd.heap.size wd)) rfl 0 _) rfl 1 _) rfl 2 _) rfl 3 _) rfl 4 _) rfl 5 _) rfl 6 _);refine HU 0 (v:=.agg #[.slice none 0 0,.slice none 0 0,.slice none 0 0,.int .i64 0,.int .i64 0,.int .i64 0,.int .i64 0]) rfl (fun wq hq=>by have q0:=(aB hq 0 lv nv).trans d0;have q1:=(aB hq 1 lv nv).trans d1;have q2:=(aB hq 2 lv nv).trans d2;have q3:=(aB hq 3 lv nv).trans d3;have q4:=(aB hq 4 lv nv).trans d4;have q5:=(aB hq 5 lv nv).trans d5;have q6:=(aB hq 6 lv nv).trans d6;go_simp) hS ?_;refine HU 1 (v:=.iface 93 (.int .i64 c)) rfl (fun wq hq=>by go_simp) hS ?_;refine HU 2 (v:=.bool false) rfl (fun wq hq=>by go_simp) hS ?_;refine HG 3 rfl ?_;intro K' hK
 go_simp;refine hK _ _ ⟨af hS KG.out,?_⟩;clear hK;refine HG 4 rfl ?_;intro K' hK;go_simp;refine hK _ _ ⟨af hS KG.out,?_⟩;clear hK;refine wpAnyH_done (by kernel_rfl) ?_ _;clear hS d0 y0 f0 d1 y1 f1 d2 y2 f2 d3 y3 f3 d4 y4 f4 d5 y5 f5 d6 y6 f6;generalize (((((((wd.setCell ⟨w.heap.size,0,none⟩ (.slice none 0 0)).setCell ⟨w.heap.size,1,none⟩ (.slice none 0 0)).setCell ⟨w.heap.size,2,none⟩ (.slice none 0 0)).setCell ⟨w.heap.size,3,none⟩ (.int .i64 0)).setCell ⟨w.heap.size,4,none⟩ (.int .i64 0)).setCell ⟨w.heap.size,5,none⟩ (.int .i64 0)).setCell ⟨w.heap.size,6,none⟩ (.int .i64 0))=wz at *;go_wp2_with fail;have z0:=Z.out.c 0 (by simp);have z1:=Z.out.c 1 (by simp);have z2:=Z.out.c 2 (by simp);have z3:=Z.out.c 3 (by simp);have z4:=Z.out.c 4 (by simp);have z5:=Z.out.c 5 (by simp);have z6:=Z.out.c 6 (by simp);simp only [List.getElem?_cons_zero,List.getElem?_cons_succ] at z0 z1 z2 z3 z4 z5 z6;refine bodyPost_ret (v:=.tuple #[.agg #[.slice none 0 0,.slice none 0 0,.slice none 0 0,.int .i64 0,.int .i64 0,.int .i64 0,.int .i64 0],.bool false]) (by simp [results,Tryz.results25,go_sem,z0,z1,z2,z3,z4,z5,z6]) rfl ?_;refine ⟨aL (cO (gp:=w.heap.size) (ae B3.out) KG.out (Nat.le_refl _)) (Nat.le_refl _) (fun k e=>by omega),?_⟩;exact .inl rfl
theorem asked_ok (s:ByteArray) (w:World) (ht:TabQ w) (hs:s.size≤400) (q:Qy) (hp:dZ s=.ok q):Calls Tryz.prog 25 #[.string s] w fun r w'=>qz s w r w':=by
 have ba:=aj w (.cells #[.slice none 0 0,.slice none 0 0,.slice none 0 0,.int .i64 0,.int .i64 0,.int .i64 0,.int .i64 0] 28);have BA:=aa ba;have BR:=aa (az w [.slice none 0 0,.slice none 0 0,.slice none 0 0,.int .i64 0,.int .i64 0,.int .i64 0,.int .i64 0] 28);have TR:=aa (dB w #[.slice none 0 0,.slice none 0 0,.slice none 0 0,.int .i64 0,.int .i64 0,.int .i64 0,.int .i64 0] 28);have h4:¬ (400:Int) < (s.size:Int):=by omega
 have PA:=ji s _ (ht.below ba);unfold jU at PA;rw [hp] at PA
 simp only at PA
 have HP:=aa hp;clear hp;have PAH:=aa PA;have e9:(w.alloc (.cells #[.slice none 0 0,.slice none 0 0,.slice none 0 0,.int .i64 0,.int .i64 0,.int .i64 0,.int .i64 0] 28)).heap.size=w.heap.size+1:=by simp
 have HE9:=aa e9;clear PA ba ht hs e9
 go_enter Tryz.func25,Tryz.ntmps25
 go_wp2_with fail;generalize (w.alloc (.cells #[.slice none 0 0,.slice none 0 0,.slice none 0 0,.int .i64 0,.int .i64 0,.int .i64 0,.int .i64 0] 28))=w0 at *;refine PAH.out.mono ?_;rintro r w1 ⟨hb,va,vw,vb,ps,rfl,hqo⟩;obtain ⟨a1,n1,c1,rfl⟩:∃ a n c,va=.slice a n c:=by obtain ⟨a,c,e⟩:=ax hqo.row;exact ⟨_,_,_,e⟩
 obtain ⟨a2,c2,e2⟩:=aq (fc hqo.wh).1;obtain ⟨a3,c3,e3⟩:=aq (fc hqo.by_).1;subst e2 e3;unfold qyV;have B1:=aa (BA.out.trans (hb.mono BA.out.size));have BR1:=aa (ai BR.out hb BR.out.lt);have TR1:=aa (aT TR.out (ae (bad:=fun _=>False) hb) id);have lr1:=BR1.out.lt;have bv:=aj w1 (.cells #[.slice a1 n1 c1,.slice a2 q.wh.length c2,.slice a3 q.bys.length c3,.int .i64 q.size,.int .i64 q.slide,.int .i64 q.delay,.int .i64 q.late] 28);have BV:=aa (az w1 [.slice a1 n1 c1,.slice a2 q.wh.length c2,.slice a3 q.bys.length c3,.int .i64 q.size,.int .i64 q.slide,.int .i64 q.delay,.int .i64 q.late] 28);have B2:=aa (B1.out.trans (bv.mono B1.out.size));have BR2:=aa (ai BR1.out bv lr1);have TR2:=aa (aT TR1.out (ae (bad:=fun _=>False) bv) id);have QO2:=aa (gn hqo bv);clear hqo;clear hb bv PAH BR TR BR1 TR1 B1 BA;go_wp2_with fail;generalize hgv:w1.heap.size=gv at *;generalize w1.alloc (.cells #[.slice a1 n1 c1,.slice a2 q.wh.length c2,.slice a3 q.bys.length c3,.int .i64 q.size,.int .i64 q.slide,.int .i64 q.delay,.int .i64 q.late] 28)=w2 at *;have d0:=BV.out.c 0 (by simp);have d1:=BV.out.c 1 (by simp);have d2:=BV.out.c 2 (by simp);have d3:=BV.out.c 3 (by simp);have d4:=BV.out.c 4 (by simp);have d5:=BV.out.c 5 (by simp);have d6:=BV.out.c 6 (by simp);simp only [List.getElem?_cons_zero,List.getElem?_cons_succ] at d0 d1 d2 d3 d4 d5 d6;have lv:=BV.out.lt;have nv:¬ gv=w.heap.size:=by omega
 have dd:Below w2.heap.size w2 ({ w2 with drawn:=w2.drawn+1 }:World):=(Below.refl _ _).drew;have hS:KeptB w2 ({ w2 with drawn:=w2.drawn+1 }:World) (fun q=>q=w.heap.size):=ae dd;have BR3:=aa (ai BR2.out dd BR2.out.lt);have TR3:=aa (aT TR2.out (ae (bad:=fun _=>False) dd) id);have B3:=aa (B2.out.trans (dd.mono B2.out.size));have QO3:=aa (gn QO2.out dd);clear dd BR2 TR2 B2 BV QO2;refine wp_region_held (S:=fun w'=>KeptB w2 w' (fun q=>q=w.heap.size)) (by kernel_rfl) ?_;generalize ({ w2 with drawn:=w2.drawn+1 }:World)=wd at *;have f0:=BR3.out.fz 0;have y0:=BR3.out.c 0 (by simp);have f1:=BR3.out.fz 1;have y1:=BR3.out.c 1 (by simp);have f2:=BR3.out.fz 2;have y2:=BR3.out.c 2 (by simp);have f3:=BR3.out.fz 3;have y3:=BR3.out.c 3 (by simp);have f4:=BR3.out.fz 4;have y4:=BR3.out.c 4 (by simp);have f5:=BR3.out.fz 5;have y5:=BR3.out.c 5 (by simp);have f6:=BR3.out.fz 6;have y6:=BR3.out.c 6 (by simp);simp only [List.getElem?_cons_zero,List.getElem?_cons_succ] at y0 y1 y2 y3 y4 y5 y6;have Z:=aa (show BlkAt (((((((wd.setCell ⟨w.heap.size,0,none⟩ (.slice a1 n1 c1)).setCell ⟨w.heap.size,1,none⟩ (.slice a2 q.wh.length c2)).setCell ⟨w.heap.size,2,none⟩ (.slice a3 q.bys.length c3)).setCell ⟨w.heap.size,3,none⟩ (.int .i64 q.size)).setCell ⟨w.heap.size,4,none⟩ (.int .i64 q.slide)).setCell ⟨w.heap.size,5,none⟩ (.int .i64 q.delay)).setCell ⟨w.heap.size,6,none⟩ (.int .i64 q.late)) w.heap.size [.slice a1 n1 c1,.slice a2 q.wh.length c2,.slice a3 q.bys.length c3,.int .i64 q.size,.int .i64 q.slide,.int .i64 q.delay,.int .i64 q.late] by simpa using (ay (ay (ay (ay (ay (ay (ay BR3.out 0 (.slice a1 n1 c1) (by simp)) 1 (.slice a2 q.wh.length c2) (by simp)) 2 (.slice a3 q.bys.length c3) (by simp)) 3 (.int .i64 q.size) (by simp)) 4 (.int .i64 q.slide) (by simp)) 5 (.int .i64 q.delay) (by simp)) 6 (.int .i64 q.late) (by simp)));have KG:Hid (KeptB wd (((((((wd.setCell ⟨w.heap.size,0,none⟩ (.slice a1 n1 c1)).setCell ⟨w.heap.size,1,none⟩ (.slice a2 q.wh.length c2)).setCell ⟨w.heap.size,2,none⟩ (.slice a3 q.bys.length c3)).setCell ⟨w.heap.size,3,none⟩ (.int .i64 q.size)).setCell ⟨w.heap.size,4,none⟩ (.int .i64 q.slide)).setCell ⟨w.heap.size,5,none⟩ (.int .i64 q.delay)).setCell ⟨w.heap.size,6,none⟩ (.int .i64 q.late)) (fun q=>q=w.heap.size)):=(ah (ah (ah (ah (ah (ah (ah (ae (bad:=fun q=>q=w.heap.size) (Below.refl wd.heap.size wd)) rfl 0 _) rfl 1 _) rfl 2 _) rfl 3 _) rfl 4 _) rfl 5 _) rfl 6 _);refine HU 0 (v:=.agg #[.slice a1 n1 c1,.slice a2 q.wh.length c2,.slice a3 q.bys.length c3,.int .i64 q.size,.int .i64 q.slide,.int .i64 q.delay,.int .i64 q.late]) rfl (fun wq hq=>by have q0:=(aB hq 0 lv nv).trans d0;have q1:=(aB hq 1 lv nv).trans d1;have q2:=(aB hq 2 lv nv).trans d2;have q3:=(aB hq 3 lv nv).trans d3;have q4:=(aB hq 4 lv nv).trans d4;have q5:=(aB hq 5 lv nv).trans d5;have q6:=(aB hq 6 lv nv).trans d6;go_simp) hS ?_
 refine HU 1 (v:=.nilIface) rfl (fun wq hq=>by go_simp) hS ?_;refine HU 2 (v:=.bool true) rfl (fun wq hq=>by go_simp) hS ?_;refine HG 3 rfl ?_;intro K' hK;go_simp;refine hK _ _ ⟨af hS KG.out,?_⟩;clear hK;refine HG 4 rfl ?_;intro K' hK;go_simp;refine hK _ _ ⟨af hS KG.out,?_⟩;clear hK;refine wpAnyH_done (by kernel_rfl) ?_ _;clear hS d0 y0 f0 d1 y1 f1 d2 y2 f2 d3 y3 f3 d4 y4 f4 d5 y5 f5 d6 y6 f6;generalize (((((((wd.setCell ⟨w.heap.size,0,none⟩ (.slice a1 n1 c1)).setCell ⟨w.heap.size,1,none⟩ (.slice a2 q.wh.length c2)).setCell ⟨w.heap.size,2,none⟩ (.slice a3 q.bys.length c3)).setCell ⟨w.heap.size,3,none⟩ (.int .i64 q.size)).setCell ⟨w.heap.size,4,none⟩ (.int .i64 q.slide)).setCell ⟨w.heap.size,5,none⟩ (.int .i64 q.delay)).setCell ⟨w.heap.size,6,none⟩ (.int .i64 q.late))=wz at *;go_wp2_with fail;have z0:=Z.out.c 0 (by simp);have z1:=Z.out.c 1 (by simp);have z2:=Z.out.c 2 (by simp);have z3:=Z.out.c 3 (by simp);have z4:=Z.out.c 4 (by simp);have z5:=Z.out.c 5 (by simp);have z6:=Z.out.c 6 (by simp);simp only [List.getElem?_cons_zero,List.getElem?_cons_succ] at z0 z1 z2 z3 z4 z5 z6;refine bodyPost_ret (v:=.tuple #[.agg #[.slice a1 n1 c1,.slice a2 q.wh.length c2,.slice a3 q.bys.length c3,.int .i64 q.size,.int .i64 q.slide,.int .i64 q.delay,.int .i64 q.late],.bool true]) (by simp [results,Tryz.results25,go_sem,z0,z1,z2,z3,z4,z5,z6]) rfl ?_;refine ⟨aL (cO (gp:=w.heap.size) (ae B3.out) KG.out (Nat.le_refl _)) (Nat.le_refl _) (fun k e=>by omega),?_⟩;exact .inr ⟨q,_,_,_,ps,HP.out,rfl,qyO_base (pY QO3.out KG.out TR3.out qty_node qty_agg) (by have:=HE9.out;omega)⟩
theorem asked_any (s:ByteArray) (w:World) (ht:TabQ w):Calls Tryz.prog 25 #[.string s] w fun r w'=>qz s w r w':=by
 by_cases h:400 < s.size
 ·exact asked_long s w h
 ·cases hp:dZ s with
  | error c=>exact asked_bad s w ht (by omega) c hp
  | ok q=>exact asked_ok s w ht (by omega) q hp
theorem chk_of_parse {s:ByteArray} {q:Qy} (h:dZ s=.ok q):chkQ q=0:=by
 unfold dZ at h
 split at h
 ·cases h
 ·cases hq:jO (lexT s).2 with
  | error c=>rw [hq] at h;cases h
  | ok q9 =>
   rw [hq] at h
   simp only at h
   split at h
   ·cases h
   ·rename_i hc;cases h;exact Classical.byContradiction hc
theorem kF {q:Qy}:∀ (l:List Ev) (g:Int) (k:Bool),∀ c∈dM q g k l,c.vs.length=q.aggs.length
 | [],g,k,c,hc=>by simp [dM] at hc
 | x :: l,g,k,c,hc=>by
  unfold dM at hc
  by_cases h:evC x≠0
  ·rw [if_pos h] at hc;exact kF l g k c hc
  ·rw [if_neg h] at hc
   rcases List.mem_append.1 hc with hc | hc
   ·unfold takeC at hc
    split at hc
    ·exact putL_vs c hc
    ·simp at hc
   ·exact kF l _ true c hc
theorem o7 {q:Qy} {M:List (List Ev)}:∀ c∈nN q M,c.vs.length=q.aggs.length:=fun c hc=>by
 obtain ⟨l,-,h⟩:=List.mem_flatMap.1 hc;exact kF l 0 false c h
theorem late_kpt {q:Qy} {M:List (List Ev)} {p:Nat} (hp:p < M.length):∀ st,fx q (bF q ((bB M).getD p 0)) (decide (0≤(bB M).getD p 0)) st=false→nV q (jC q M) st=true:=fun st h=>by
 have hpl:p < (bB M).length:=by unfold bB;rw [List.length_map];exact hp
 have hmin:=min_le (bB M) p hpl;unfold jC
 by_cases hm:minOf (bB M) < 0
 ·rw [if_pos hm];rfl
 ·rw [if_neg hm];have e:bF q ((bB M).getD p 0)=(bB M).getD p 0 - q.delay:=by unfold bF;rw [if_neg (by omega)]
  rw [decide_eq_true (by omega),e] at h;simp only [fx,Bool.true_and,decide_eq_false_iff_not] at h;unfold nV;simp only [Bool.not_eq_true',decide_eq_false_iff_not];omega
theorem lB {M:List (List Ev)} (h:∀ l∈M,∀ x∈l,evC x=0):∀ g∈bB M,-1≤g∧g≤9999:=fun g hg=>by
 obtain ⟨l,hl,rfl⟩:=List.mem_map.1 hg
 have:=farL_bound l (-1) (h l hl)
 omega
theorem lV {G:List Int} {p:Nat} (h:p < G.length):G.getD p 0∈G:=by
 rw [List.getD_eq_getElem?_getD,List.getElem?_eq_getElem h];exact List.getElem_mem h
theorem min_mem (G:List Int) (h:0 < G.length):minOf G∈G:=by
 obtain ⟨i,hi,e⟩:=min_at G h;rw [e];exact lV hi
theorem ofV_in {ks:List Int} {cs:List Ct} {V:List Pn} (h:OfV ks cs V) (hc:∀ c∈cs,-1000≤c.st∧c.st≤9999):∀ p∈V,-1000≤p.st∧p.st≤9999:=fun p hp=>by
 have h9:=(h.acc p hp).2;obtain ⟨c,hc9⟩:=List.exists_mem_of_ne_nil _ h9;have h8:=List.mem_filter.1 hc9;have h7:=of_decide_eq_true h8.2;rw [← h7.1];exact hc c h8.1
theorem estep_any (w0:World) (eb B b0:Nat) (q:Qy) (ps:List (AgQ×Value)) (va vw vb:Value) (M:List (List Ev)) (late:Nat) (tb:List Pn) (rs:List (Rw×Value)) (rdv ckv tv rv:Value) (V:List Pn) (cs:List Ct) (p:Nat) (l:List Ev) (x:Ev) (W:World)
  (hE:EgR w0 eb B b0 q va vw vb (M.map List.length) (bB M) late tb rs rdv ckv tv rv W) (hR:RunI q M tb (rs.map Prod.fst) late V cs) (hq0:QyG w0 va vw vb q ps) (hqk:QyK eb rdv va vw vb ps) (h1:w0.heap.size≤B) (hb0:b0≤w0.heap.size) (hc:chkQ q=0) (hM3:M.length≤3) (hp:M[p]?=some l) (hl40:∀ l∈M,l.length≤40) (hle:∀ l∈M,∀ x∈l,evC x=0) (hx:evC x=0) (hcs:cs.length≤476) (hr:rs.length≤800000) (hlt9:late≤900000) :
  Calls Tryz.prog 17 #[.pointer (some ⟨eb,0,none⟩),.int .i64 (p:Nat),ei x] W (fun e w'=>e=.returned (.tuple #[])∧∃ tb' rs' late' ckv' tv' rv',EgR w0 eb B b0 q va vw vb ((M.set p (l++[x])).map List.length) (bB (M.set p (l++[x]))) late' tb' rs' rdv ckv' tv' rv' w'∧lY q (bB M) p x tb (rs.map Prod.fst) late tb' (rs'.map Prod.fst) late'∧rs'.length≤rs.length+600∧(rv'.ownBlock=rv.ownBlock∨∃ k,rv'.ownBlock=some k∧W.heap.size≤k)∧KeptB W w' (fun k=>k=eb∨rdv.ownBlock=some k∨rv.ownBlock=some k)):=by
 have hS:=oO hc;have hN:=qyN_of hc;have hK:=qyK_of hc;have hpl:p < M.length:=(List.getElem?_eq_some_iff.1 hp).1;have hcl:(bB M).length=M.length:=by unfold bB;rw [List.length_map]
 have hgb:=lB hle _ (lV (G:=bB M) (p:=p) (by omega));have hll:=hl40 l (List.mem_of_getElem? hp);have h4:ps.length≤4:=by
  have h5:=(js hc).n4;rw [← hq0.qa,List.length_map] at h5;exact h5
 have hvs:∀ d∈cs,d.vs.length=q.aggs.length:=fun d hd=>o7 d (hR.perm.mem_iff.1 hd)
 have PUT:=eput_any w0 eb B q ps rdv ckv (eI late) va vw vb cs (jC q M) tb (rs.map Prod.fst) rs.length hq0 h4 hK hqk h1 (by omega) hvs (by omega);have R0:∀ w',Below W.heap.size W w'→o6 w0 eb B q rdv ckv (eI late) va vw vb cs (jC q M) tb (rs.map Prod.fst) rs.length [] rv.ownBlock w':=fun w' hb=>⟨tb,rs,tv,rv,V,bW hE.en hb,rfl,by rw [List.append_nil];exact hR.en,.nil,fun d hd=>by simp at hd,by simp⟩
 have hW:nY x.t q.size q.slide:=⟨(lu hx).2.1,(lu hx).2.2,hS.s1,hS.s2,hS.s3,hS.s4⟩;have hkl:=lW hW (bF q ((bB M).getD p 0)) (decide (0≤(bB M).getD p 0));obtain ⟨c1,c2⟩:=iN hx M p l hp (hle l (List.mem_of_getElem? hp)) (q:=q);have hg9:(bB M).getD p 0=ey (-1) l:=by
  unfold bB;rw [List.getD_eq_getElem?_getD,List.getElem?_map,hp]
  rfl
 rw [← hg9] at c1;have HIN:Hid (∀ c∈cs++takeC q x (bF q ((bB M).getD p 0)) (decide (0≤(bB M).getD p 0)),-1000≤c.st∧c.st≤9999):=fun c hc9=>allC_in hS c (((hR.perm.append_right _).trans c1.symm).mem_iff.1 hc9)
 have HVS:Hid (∀ c∈cs++takeC q x (bF q ((bB M).getD p 0)) (decide (0≤(bB M).getD p 0)),c.vs.length=q.aggs.length):=fun c hc9=>o7 c (((hR.perm.append_right _).trans c1.symm).mem_iff.1 hc9)
 have TAKE:=aa (fun w' (hb:Below W.heap.size W w')=>etakeE_any _ (fun st=>nV q (jC q M) st=true) eb rv.ownBlock va vw vb q ps x (bF q ((bB M).getD p 0)) (decide (0≤(bB M).getD p 0)) (.pointer (some ⟨eb,0,none⟩)) [] w' (ke (eb:=eb) (rdv:=rdv) hq0 (bW hE.en hb).old hqk) h4 hN (lu hx).1 hW hS.l0 hS.l1 PUT (late_kpt hpl) (R0 w' hb) (by decide));have PTA:=aa (fun w' (hb:Below W.heap.size W w')=>mU (bB M) ckv p q.delay w' (by omega) (by omega) (aA (aE hE.ck) hb));rw [oY q _ (by omega) (by omega) ⟨hS.d0,by have:=hS.d1;omega⟩] at PTA;have hseel:(eF (bB M) p x.t).length=M.length:=by rw [iU];exact hcl
 have hclk:bB (M.set p (l++[x]))=eF (bB M) p x.t:=om hp x;have hgb2:=lB (M:=M.set p (l++[x])) (fun l9 hl9 y hy=>by
  rcases List.mem_or_eq_of_mem_set hl9 with h9 | h9
  ·exact hle l9 h9 y hy
  ·subst h9
   rcases List.mem_append.1 hy with h8 | h8
   ·exact hle l (List.mem_of_getElem? hp) y h8
   ·rw [List.mem_singleton.1 h8];exact hx) _ (min_mem _ (by rw [hclk,hseel];omega))
 rw [hclk] at hgb2;obtain ⟨rdg,rdc,hrd,hrd1,hrd2⟩:=dY hE.rd (by rw [List.length_map];omega);subst hrd;rw [List.length_map] at hE hqk TAKE;rw [List.length_map];obtain ⟨tva,tvc,rfl⟩:=aF hE.en.tt.row;obtain ⟨rva,rvc,rfl⟩:=ax hE.en.ro;obtain ⟨cka,ckc,rfl⟩:=ax hE.ck;have hqk9:=ke (eb:=eb) hq0 hE.en.old hqk;obtain ⟨ao,cap,rfl⟩:=aq hqk9.ag.row;obtain ⟨a2,c2_,rfl⟩:=aq hqk9.wh;obtain ⟨a3,c3_,rfl⟩:=aq hqk9.by_;unfold qyV ei at TAKE;unfold ei;have SC:=aa (fun w' (hb:Below W.heap.size W w')=>im x w');rw [hx] at SC;unfold ei ik at SC;have bx:=aj W (.cells #[.int .i64 x.t,.int .i64 x.k1,.int .i64 x.k2,.int .i64 x.a1,.int .i64 x.a2,.int .i64 x.b1,.int .i64 x.b2] 43);have BX:=aa (az W [.int .i64 x.t,.int .i64 x.k1,.int .i64 x.k2,.int .i64 x.a1,.int .i64 x.a2,.int .i64 x.b1,.int .i64 x.b2] 43);have EX:=aa (eP hE bx);have HBX:=aa bx;have e0:(W.alloc (.cells #[.int .i64 x.t,.int .i64 x.k1,.int .i64 x.k2,.int .i64 x.a1,.int .i64 x.a2,.int .i64 x.b1,.int .i64 x.b2] 43)).cell? ⟨eb,0,none⟩=some (.slice (some ⟨rdg,0,none⟩) M.length rdc):=EX.out.en.be.c 0 (by simp);have lebw:=hE.en.be.lt;have leb:=EX.out.en.be.lt;have HPT:=aa PTA;have SCX:=aa (SC.out _ bx);have HRL:=aa (aJ hE.en.ro);have HRU:=aa hR;have HHP:=aa hp;have HCLK:=aa hclk;have HSL:=aa hseel;have HQ0:=aa hqk9;have HCL:=aa hcl;have HC1:=aa c1;have HGB:=aa hgb2;have HNK:=aa hK;have hrdb:rdg≠eb∧rdg < B:=hE.rk rdg rfl;have HES:=aa hE.rd;have hkn:(takeN q x (bF q ((bB M).getD p 0)) (decide (0≤(bB M).getD p 0)))≤4:=hkl.2;have hkc:(takeC q x (bF q ((bB M).getD p 0)) (decide (0≤(bB M).getD p 0))).length≤4:=hkl.1;have HBB:=aa hE.en.old.b0.size;clear bx hE hR hp hclk hseel hqk9 hcl c1 c2 PTA PUT R0 hW hkl hvs SC hgb2 hgb hK hN hle hl40 hg9 hrd1
 go_enter Tryz.func17,Tryz.ntmps17
 go_wp2_with fail;refine SCX.out.mono ?_;rintro e w1 ⟨rfl,hb1⟩;have E1:=aa (eP EX.out hb1);have BX1:=aa (ai BX.out hb1 BX.out.lt);have HB1:=aa (HBX.out.trans (hb1.mono HBX.out.size));clear e0 leb SCX hb1 EX BX HBX;go_wp2_with fail;have PNH:=aa (@eX Tryz.prog Tryz.f17 (fun e w'=>e=.returned (.tuple #[])∧∃ tb' rs' late' ckv' tv' rv',EgR w0 eb B b0 q (.slice ao ps.length cap) (.slice a2 q.wh.length c2_) (.slice a3 q.bys.length c3_) ((M.set p (l++[x])).map List.length) (bB (M.set p (l++[x]))) late' tb' rs' (.slice (some ⟨rdg,0,none⟩) M.length rdc) ckv' tv' rv' w'∧lY q (bB M) p x tb (rs.map Prod.fst) late tb' (rs'.map Prod.fst) late'∧rs'.length≤rs.length+600∧(rv'.ownBlock=(Value.slice rva rs.length rvc).ownBlock∨∃ k,rv'.ownBlock=some k∧W.heap.size≤k)∧KeptB W w' (fun k=>k=eb∨(Value.slice (some ⟨rdg,0,none⟩) M.length rdc).ownBlock=some k∨(Value.slice rva rs.length rvc).ownBlock=some k)));refine estep_r2 _ _ (by kernel_rfl) _ eb W.heap.size p (.slice (some ⟨rdg,0,none⟩) M.length rdc) (.slice tva tb.length tvc) (eI late) (.slice rva rs.length rvc) cka ao a2 a3 (bB M).length ckc cap c2_ c3_ q ps _ (bB M) rfl rfl rfl rfl E1.out.en.be (fun w' hb=>HPT.out w' (HB1.out.trans (hb.mono HB1.out.size))) (by first | exact bX PNH.out | exact PNH.out) ?_;rintro t2 w2 ht2 j0 j1 j5 j6 j7 hb2;obtain ⟨f2,hf,hi⟩:=eu t2 ht2;have e0:=am (hi 0 (by decide)) j0;have e1:=am (hi 1 (by decide)) j1;have e5:=am (hi 5 (by decide)) j5;have e6:=am (hi 6 (by decide)) j6;have e7:=am (hi 7 (by decide)) j7;rw [e0,e1,e5,e6,e7] at hf;clear hi ht2 j0 e0 j1 e1 j5 e5 j6 e6 j7 e7;subst hf;refine aP ?_;rename_i K9 hK9;refine hK9 _ _ ?_;clear hK9;have E2:=aa (eP E1.out hb2);have BX2:=aa (ai BX1.out hb2 BX1.out.lt);have HB2:=aa (HB1.out.trans (hb2.mono HB1.out.size));clear E1 BX1 HB1 hb2 HPT;go_wp2_with fail;refine estep_r3 _ _ (by kernel_rfl) _ eb W.heap.size p (.slice (some ⟨rdg,0,none⟩) M.length rdc) (.slice tva tb.length tvc) (.slice rva rs.length rvc) cka ao a2 a3 (bB M).length ckc cap c2_ c3_ q ps _ late (takeN q x (bF q ((bB M).getD p 0)) (decide (0≤(bB M).getD p 0))) _ _ (Value.slice rva rs.length rvc).ownBlock x (fun w9=>∃ rb',o6 w0 eb B q (.slice (some ⟨rdg,0,none⟩) M.length rdc) (.slice cka (bB M).length ckc) (eI late) (.slice ao ps.length cap) (.slice a2 q.wh.length c2_) (.slice a3 q.bys.length c3_) cs (jC q M) tb (rs.map Prod.fst) rs.length (takeC q x (bF q ((bB M).getD p 0)) (decide (0≤(bB M).getD p 0))) rb' w9∧(rb'=(Value.slice rva rs.length rvc).ownBlock∨∃ k,rb'=some k∧w2.heap.size≤k)∧KeptB w2 w9 (fun k=>k=eb∨(Value.slice rva rs.length rvc).ownBlock=some k)) rfl rfl rfl rfl rfl rfl E2.out.en.be BX2.out (fun e=>by
  rcases e with e | e
  ·omega
  ·have:=(HRL.out _ e).2;omega) (by omega) (by omega) (fun w' hb=>(TAKE.out w' (HB2.out.trans (hb.mono HB2.out.size))).mono (by
   rintro e w9 ⟨rfl,rb',hr9,hrb,hk9⟩;refine ⟨rfl,rb',hr9,?_,af (ae hb) hk9⟩
   rcases hrb with e | ⟨k,e,h9⟩
   ·exact .inl e
   ·exact .inr ⟨k,e,Nat.le_trans hb.size h9⟩)) (fun w9 h9=>by
   obtain ⟨rb',⟨tb1,rs1,tv1,rv1,V1,M1,-⟩,-,K1⟩:=h9;exact ⟨K1,tv1,rv1,M1.be⟩) (by first | exact bX PNH.out | exact PNH.out) ?_
 rintro t3 w31 w3 ht3 i0 i1 i5 ⟨⟨rb',⟨tb1,rs1,tv1,rv1,V1,M1,rfl,I1,A1,-,hlen1⟩,hrb,K1⟩,rfl⟩;obtain ⟨f3,hf,hi⟩:=eu t3 ht3;have e0:=am (hi 0 (by decide)) i0;have e1:=am (hi 1 (by decide)) i1;have e5:=am (hi 5 (by decide)) i5;rw [e0,e1,e5] at hf;clear hi ht3 i0 e0 i1 e1 i5 e5;subst hf;refine aP ?_;rename_i K9 hK9;refine hK9 _ _ ?_;clear hK9;have E3:=aa (egR_late (pf E2.out M1 K1 hrb) (late+(takeN q x (bF q ((bB M).getD p 0)) (decide (0≤(bB M).getD p 0)))));have KB1:=cW K1 (bad':=fun k=>k=eb∨(Value.slice (some ⟨rdg,0,none⟩) M.length rdc).ownBlock=some k∨(Value.slice rva rs.length rvc).ownBlock=some k) (fun k e=>e.elim Or.inl (fun e=>.inr (.inr e)));have K3:=aa (ah (af (ae HB2.out) KB1) (g:=eb) (.inl rfl) 3 (eI (late+(takeN q x (bF q ((bB M).getD p 0)) (decide (0≤(bB M).getD p 0))))));have BX3:=aa (aI (aI BX2.out K1 (fun e=>by
  rcases e with e | e
  ·omega
  ·have:=(HRL.out _ e).2;omega)) (ah (ae (bad:=fun k=>k=eb) (Below.refl w31.heap.size w31)) (g:=eb) rfl 3 (eI (late+(takeN q x (bF q ((bB M).getD p 0)) (decide (0≤(bB M).getD p 0)))))) (by omega))
 have HI1:=aa I1;have HA1:=aa A1;have hrb2:rv1.ownBlock=(Value.slice rva rs.length rvc).ownBlock∨∃ k,rv1.ownBlock=some k∧W.heap.size≤k:=by
  rcases hrb with e | ⟨k,e,h9⟩
  ·exact .inl e
  ·exact .inr ⟨k,e,Nat.le_trans HB2.out.size h9⟩
 have HRB:=aa hrb2;have HTB:=aa (oQ I1 (by rw [List.length_append];omega) (fun d hd=>by rw [List.length_map];exact HVS.out d hd) (fun y hy=>by obtain ⟨a,ha,rfl⟩:=List.mem_map.1 hy;exact HNK.out a ha));have HST:=aa (ofV_in I1.ofv HIN.out);have HTV:Hid (∀ y∈tb1,y∈V1):=fun y hy=>by rw [I1.tb] at hy;exact (List.mem_filter.1 hy).1
 have hlen2:rs1.length≤rs.length+8:=by omega
 clear K1 KB1 I1 A1 hrb hrb2 M1 hlen1 E2 BX2 TAKE HVS HIN HNK;obtain ⟨tva1,tvc1,rfl⟩:=aF E3.out.en.tt.row;obtain ⟨rva1,rvc1,rfl⟩:=ax E3.out.en.ro;have d0:(w31.setCell ⟨eb,3,none⟩ (eI (late+(takeN q x (bF q ((bB M).getD p 0)) (decide (0≤(bB M).getD p 0)))))).cell? ⟨eb,0,none⟩=some (.slice (some ⟨rdg,0,none⟩) M.length rdc):=E3.out.en.be.c 0 (by simp);have dl:=E3.out.en.be.lt;have dr:(w31.setCell ⟨eb,3,none⟩ (eI (late+(takeN q x (bF q ((bB M).getD p 0)) (decide (0≤(bB M).getD p 0)))))).cell? ⟨rdg,p,none⟩=some (.int .i64 (l.length:Int)):=by
  have h8:=E3.out.rd;rw [List.length_map] at h8;have h9:=h8.cellAt p (by omega);rw [List.getElem?_map,List.getElem?_map,HHP.out] at h9;exact h9
 have dg:rdg < (w31.setCell ⟨eb,3,none⟩ (eI (late+(takeN q x (bF q ((bB M).getD p 0)) (decide (0≤(bB M).getD p 0)))))).heap.size:=(aJ E3.out.rd rdg rfl).2;have df:(w31.setCell ⟨eb,3,none⟩ (eI (late+(takeN q x (bF q ((bB M).getD p 0)) (decide (0≤(bB M).getD p 0)))))).frozen? ⟨rdg,p,none⟩=false:=by
  have h9:=E3.out.rd;rw [List.length_map] at h9;exact ii h9 p
 generalize hw3:w31.setCell ⟨eb,3,none⟩ (eI (late+(takeN q x (bF q ((bB M).getD p 0)) (decide (0≤(bB M).getD p 0)))))=w3 at *;clear hw3;go_wp2_with fail;have E4a:=egR_read (Rd:=M.map List.length) (g:=rdg) (c:=rdc) (by rw [List.length_map];exact E3.out) p (l.length+1);rw [List.length_set,List.length_map] at E4a;have hcast:eI (l.length+1)=.int .i64 ((l.length:Int)+1):=by unfold eI;rw [Int.natCast_add];rfl
 rw [hcast] at E4a;have E4:=aa E4a;have K4:=aa (ah K3.out (g:=rdg) (.inr (.inl rfl)) p (.int .i64 ((l.length:Int)+1)));have BX4:=aa (aI BX3.out (ah (ae (bad:=fun k=>k=rdg) (Below.refl w3.heap.size w3)) (g:=rdg) rfl p (.int .i64 ((l.length:Int)+1))) (by have:=hrd2;omega));clear E4a hcast d0 dl dr dg df E3 K3 BX3;generalize w3.setCell ⟨rdg,p,none⟩ (.int .i64 ((l.length:Int)+1))=w4 at *;have PT5:=aa (fun w' (hb:Below w4.heap.size w4 w')=>see_any (bB M) (.slice cka (bB M).length ckc) p x.t w' (by rw [HCL.out];omega) (by rw [HCL.out];exact hpl) (aA (aE E4.out.ck) hb));refine estep_r5 _ _ (by kernel_rfl) _ eb W.heap.size p (.slice (some ⟨rdg,0,none⟩) M.length rdc) (.slice tva1 tb1.length tvc1) (eI (late+(takeN q x (bF q ((bB M).getD p 0)) (decide (0≤(bB M).getD p 0))))) (.slice rva1 rs1.length rvc1) cka ao a2 a3 (bB M).length ckc cap c2_ c3_ q ps _ (bB M) x rfl rfl rfl rfl E4.out.en.be BX4.out (fun w' hb=>(PT5.out w' hb).mono (by
  rintro e w9 ⟨u,rfl,ho,hb9⟩;obtain ⟨ua,uc,rfl⟩:=ax ho;exact ⟨ua,uc,rfl,ho,hb9⟩)) (by first | exact bX PNH.out | exact PNH.out) ?_
 rintro t5 ua uc w51 w5 ht5 h0 h1_ h5 ⟨rfl,hb51,ho5⟩;obtain ⟨f5,hf,hi⟩:=eu t5 ht5;have e0:=am (hi 0 (by decide)) h0;have e1:=am (hi 1 (by decide)) h1_;have e5:=am (hi 5 (by decide)) h5;rw [e0,e1,e5] at hf;clear hi ht5 h0 e0 h1_ e1 h5 e5;subst hf;refine aP ?_;rename_i K9 hK9;refine hK9 _ _ ?_;clear hK9;have hbb4:b0≤w4.heap.size:=by have:=HBB.out;have:=K4.out.b0.size;omega
 have E5:=aa (egR_clk E4.out hb51 ho5 hbb4);have K5:=aa (ah (af K4.out (ae hb51)) (g:=eb) (.inl rfl) 1 (.slice ua (eF (bB M) p x.t).length uc));clear hb51 ho5 E4 K4 BX4 PT5;generalize w51.setCell ⟨eb,1,none⟩ (.slice ua (eF (bB M) p x.t).length uc)=w5 at *;have PT6:=aa (fun w' (hb:Below w5.heap.size w5 w')=>all_any (eF (bB M) p x.t) (.slice ua (eF (bB M) p x.t).length uc) q.delay w' (by rw [HSL.out];omega) (by rw [HSL.out];omega) (aA (aE E5.out.ck) hb));have HGBx:=HGB.out;rw [oY q _ (by omega) (by omega) ⟨hS.d0,by have:=hS.d1;omega⟩] at PT6;go_wp2_with fail;refine estep_r6 _ _ (by kernel_rfl) _ eb W.heap.size p (.slice (some ⟨rdg,0,none⟩) M.length rdc) (.slice tva1 tb1.length tvc1) (eI (late+(takeN q x (bF q ((bB M).getD p 0)) (decide (0≤(bB M).getD p 0))))) (.slice rva1 rs1.length rvc1) ua ao a2 a3 (eF (bB M) p x.t).length uc cap c2_ c3_ q ps _ (eF (bB M) p x.t) rfl rfl E5.out.en.be PT6.out (by first | exact bX PNH.out | exact PNH.out) ?_;rintro t6 w6 ht6 g0 g8 g9 hb6;obtain ⟨f6,hf,hi⟩:=eu t6 ht6;have e0:=am (hi 0 (by decide)) g0;have e8:=am (hi 8 (by decide)) g8;have e9:=am (hi 9 (by decide)) g9;rw [e0,e8,e9] at hf;clear hi ht6 g0 e0 g8 e8 g9 e9;subst hf;refine aP ?_;rename_i K9 hK9;refine hK9 _ _ ?_;clear hK9;have E6:=aa (eP E5.out hb6);have K6:=aa (af K5.out (ae hb6));have hms:(M.set p (l++[x])).map List.length=(M.map List.length).set p (l.length+1):=by rw [List.map_set,List.length_append];rfl
 have HMS:=aa hms;clear E5 K5 hb6 PT6 hms
 by_cases hm:0≤minOf (eF (bB M) p x.t)
 ·rw [decide_eq_true hm];have hu:bF q (minOf (eF (bB M) p x.t))=minOf (eF (bB M) p x.t) - q.delay:=by unfold bF;rw [if_neg (by omega)]
  rw [hu];have TE:=etell_any w0 eb B q (.slice (some ⟨rdg,0,none⟩) M.length rdc) (.slice ua (eF (bB M) p x.t).length uc) (eI (late+(takeN q x (bF q ((bB M).getD p 0)) (decide (0≤(bB M).getD p 0))))) (.slice ao ps.length cap) (.slice a2 q.wh.length c2_) (.slice a3 q.bys.length c3_) tb1 rs1 (.slice tva1 tb1.length tvc1) (.slice rva1 rs1.length rvc1) (minOf (eF (bB M) p x.t) - q.delay) w6 E6.out.en h1 (by have:=HTB.out.few;omega) (fun y hy=>by have:=HST.out y (HTV.out y hy);omega) (fun y hy=>by
   obtain ⟨a1,a2⟩:=HTB.out.acc y hy;refine ⟨by rw [a1,List.length_map];have:=(js hc).n4;omega,fun a ha=>⟨(a2 a ha).1,(a2 a ha).2.1⟩⟩) (by omega) ⟨by have:=hS.s1;have:=hS.s2;omega,hS.s3⟩ ⟨hS.l0,hS.l1⟩
  have TEH:=aa TE;clear TE;go_wp2_with fail;refine TEH.out.mono ?_;rintro e w7 ⟨rfl,ns,tv7,rv7,M7,hns,hrv7,K7⟩;have E7:=pf E6.out M7 K7 hrv7;have hnl:ns.length≤500:=by
   have e:=congrArg List.length hns;unfold dE at e;rw [List.length_map,List.length_map] at e;have h8:=List.length_filter_le (dz q.size (minOf (eF (bB M) p x.t) - q.delay)) tb1;have h9:=HTB.out.few;omega
  have KF:KeptB W w7 (fun k=>k=eb∨(Value.slice (some ⟨rdg,0,none⟩) M.length rdc).ownBlock=some k∨(Value.slice rva rs.length rvc).ownBlock=some k):=by
   refine ⟨K6.out.b0.trans K7.b0,fun k hk hn=>(K7.block k (Nat.lt_of_lt_of_le hk K6.out.b0.size) (fun e=>?_)).trans (K6.out.block k hk hn)⟩
   rcases e with e | e
   ·exact hn (.inl e)
   ·rcases HRB.out with e9 | ⟨j,e9,h9⟩
    ·exact hn (.inr (.inr (by rw [← e9];exact e)))
    ·rw [e9] at e;cases e;omega
  have RVF:rv7.ownBlock=(Value.slice rva rs.length rvc).ownBlock∨∃ k,rv7.ownBlock=some k∧W.heap.size≤k:=by
   rcases hrv7 with e | ⟨k,e,h9⟩
   ·rcases HRB.out with e9 | ⟨j,e9,h9⟩
    ·exact .inl (e.trans e9)
    ·exact .inr ⟨j,e.trans e9,h9⟩
   ·exact .inr ⟨k,e,Nat.le_trans K6.out.b0.size h9⟩
  have FIN:∃ tb' rs' late' ckv' tv' rv',EgR w0 eb B b0 q (.slice ao ps.length cap) (.slice a2 q.wh.length c2_) (.slice a3 q.bys.length c3_) ((M.set p (l++[x])).map List.length) (bB (M.set p (l++[x]))) late' tb' rs' (.slice (some ⟨rdg,0,none⟩) M.length rdc) ckv' tv' rv' w7∧lY q (bB M) p x tb (rs.map Prod.fst) late tb' (rs'.map Prod.fst) late'∧rs'.length≤rs.length+600∧(rv'.ownBlock=(Value.slice rva rs.length rvc).ownBlock∨∃ k,rv'.ownBlock=some k∧W.heap.size≤k)∧KeptB W w7 (fun k=>k=eb∨(Value.slice (some ⟨rdg,0,none⟩) M.length rdc).ownBlock=some k∨(Value.slice rva rs.length rvc).ownBlock=some k) :=
   ⟨_,rs1++ns,_,_,_,_,by rw [HMS.out,HCLK.out];simpa using E7,⟨tb1,rs1.map Prod.fst,HA1.out,rfl,.inr ⟨hm,rfl,by rw [List.map_append,hns]⟩⟩,by rw [List.length_append];omega,RVF,KF⟩
  go_wp2_with fail
  first | exact bodyPost_end (results_none rfl _ _ _) rfl ⟨rfl,by first | exact FIN | (rw [HMS.out] at FIN;exact FIN)⟩ | exact bodyPost_ret (results_none rfl _ _ _) rfl ⟨rfl,by first | exact FIN | (rw [HMS.out] at FIN;exact FIN)⟩
 ·rw [decide_eq_false hm];have FIN:∃ tb' rs' late' ckv' tv' rv',EgR w0 eb B b0 q (.slice ao ps.length cap) (.slice a2 q.wh.length c2_) (.slice a3 q.bys.length c3_) ((M.set p (l++[x])).map List.length) (bB (M.set p (l++[x]))) late' tb' rs' (.slice (some ⟨rdg,0,none⟩) M.length rdc) ckv' tv' rv' w6∧lY q (bB M) p x tb (rs.map Prod.fst) late tb' (rs'.map Prod.fst) late'∧rs'.length≤rs.length+600∧(rv'.ownBlock=(Value.slice rva rs.length rvc).ownBlock∨∃ k,rv'.ownBlock=some k∧W.heap.size≤k)∧KeptB W w6 (fun k=>k=eb∨(Value.slice (some ⟨rdg,0,none⟩) M.length rdc).ownBlock=some k∨(Value.slice rva rs.length rvc).ownBlock=some k) :=
   ⟨tb1,rs1,_,_,_,_,by rw [HMS.out,HCLK.out];simpa using E6.out,⟨tb1,rs1.map Prod.fst,HA1.out,rfl,.inl ⟨by omega,rfl,rfl⟩⟩,by omega,HRB.out,K6.out⟩
  go_wp2_with fail
  first | exact bodyPost_end (results_none rfl _ _ _) rfl ⟨rfl,by first | exact FIN | (rw [HMS.out] at FIN;exact FIN)⟩ | exact bodyPost_ret (results_none rfl _ _ _) rfl ⟨rfl,by first | exact FIN | (rw [HMS.out] at FIN;exact FIN)⟩
theorem iO (w:World) (a:Addr) (n c:Nat):(binOp .eql 26 (.slice (some a) n c) (.slice none 0 0)).run Tryz.prog w=.ok (.bool false) w:=by kernel_rfl
theorem eqlNodesNil2 (w:World) (c:Nat):(binOp .eql 26 (.slice none 0 c) (.slice none 0 0)).run Tryz.prog w=.ok (.bool true) w:=by kernel_rfl
theorem eqlAggsNil (w:World) (a:Addr) (n c:Nat):(binOp .eql 25 (.slice (some a) n c) (.slice none 0 0)).run Tryz.prog w=.ok (.bool false) w:=by kernel_rfl
theorem infoNd9:(Tryz.prog.info? 153).map (fun i=>(i.zero,i.size,i.bytes))=some (some (.agg #[.int .i64 0,.int .i64 0,.int .i64 0,.int .i64 0,.int .i64 0,.int .i64 0]),6,48):=by kernel_rfl
theorem infoAg9:(Tryz.prog.info? 143).map (fun i=>(i.zero,i.size,i.bytes))=some (some (.agg #[.int .i64 0,.slice none 0 0]),2,32):=by kernel_rfl
theorem rowN_oneE (l:List Nd):∀ u∈eT l,u.oneCell'=true:=by
 intro u hu;unfold eT at hu;rw [List.mem_flatMap] at hu;obtain ⟨e,-,h⟩:=hu;simp only [cS,List.mem_cons,List.not_mem_nil,or_false] at h
 rcases h with rfl | rfl | rfl | rfl | rfl | rfl <;> rfl
theorem jQ {w:World}:∀ (l:List (AgQ×Value)),(∀ p∈l,lf w p.2 p.1.of)→∀ u∈rowOf bw l,u.oneCell'=true
 | [],_,u,h=>by simp [rowOf] at h
 | x :: l,hx,u,h=>by
  rw [bQ] at h
  rcases List.mem_append.1 h with h | h
  ·simp only [bw,List.mem_cons,List.not_mem_nil,or_false] at h
   rcases h with rfl | rfl
   ·rfl
   ·obtain ⟨a,c,e⟩:=aq (hx x (List.mem_cons_self ..));rw [e]
    rfl
  ·exact jQ l (fun p hp=>hx p (List.mem_cons_of_mem _ hp)) u h
def le (B N:Nat) (v:Value):Prop:=∀ g off m c,v=.slice (some ⟨g,off,none⟩) m c→B≤g∧g < N
theorem dK {B B' N N':Nat} {v:Value} (h:le B N v) (hb:B'≤B) (hn:N≤N'):le B' N' v:=fun g o m c e=>⟨Nat.le_trans hb (h g o m c e).1,Nat.lt_of_lt_of_le (h g o m c e).2 hn⟩
theorem lD {w:World} {base size n:Nat} {e:TypeId} {v:Value} {xs:List Value} (h:w.ownsRow base e size v n xs):le base w.heap.size v:=fun g o k c e1=>by
 rcases h.2 with ⟨rfl,-⟩ | ⟨g2,cap,cur,rfl,hb,-⟩
 ·cases e1
 ·cases e1;exact ⟨hb,(aJ h g rfl).2⟩
theorem gf (l:List Nd) (v:Value) (w:World) (hl:l.length≤1000) (hr:lf w v l) :
  Calls Tryz.prog 83 #[v] w fun e w'=>∃ u,e=.returned u∧lf w' u l∧Below w.heap.size w w'∧le w.heap.size w'.heap.size u:=by
 obtain ⟨i0,hi,hz0,hz1,hz2⟩:=info_parts infoNd9;obtain ⟨hlen,hr⟩:=hr
 rcases hr with ⟨⟨ao,cap,rfl⟩,hn⟩ | ⟨g,off,cap,rfl,hle,hm,hgl,hcell⟩
 ·have hl0:l=[]:=List.eq_nil_of_length_eq_zero hn;subst hl0;clear hn hlen hl;cases ao with
  | none =>
   have en:=fun w=>eqlNodesNil2 w cap
   go_enter Tryz.func83,Tryz.ntmps83
   go_wp2_with fail
   go_ret
   exact ⟨_,rfl,⟨rfl,.inl ⟨⟨_,_,rfl⟩,rfl⟩⟩,Below.refl _ _,fun g o m c e=>by cases e⟩
  | some ad =>
   have en:=fun w=>iO w ad 0 cap
   have HO:Hid ((w.alloc (.cells #[] 153)).ownsRow w.heap.size 153 6 (.slice (some ⟨w.heap.size,0,none⟩) 0 0) 0 []):=by
    have h:=World.ownsRow_lit (base:=w.heap.size) (size:=6) (e:=153) w #[] 0 (Nat.le_refl _) (by decide) rfl;exact aa (by simpa using h)
   go_enter Tryz.func83,Tryz.ntmps83
   go_wp2_with (at_builtin;go_must (refine wpList_append_own _ rfl (.tmp 5) (.tmp 6) 26 rfl w.heap.size 153 i0 (.agg #[.int .i64 0,.int .i64 0,.int .i64 0,.int .i64 0,.int .i64 0,.int .i64 0]) 6 48 Tryz.underlying26 hi hz0 hz1 hz2 rfl (by decide) _ _ _ rfl HO.out ad 0 cap [] rfl rfl (fun j u hu=>by simp at hu) (fun u hu=>by simp at hu) (by decide) (by omega) (by first | (simp;done) | (simp;omega)) ?_))
   intro v' w3 ho3 hg3 _;have ho4:w3.ownsRow w.heap.size 153 6 v' 0 []:=by simpa using ho3
   have HO3:=aa ho4;have HB3:Hid (Below w.heap.size w w3):=((Below.refl _ _).alloc (Nat.le_refl _) _).grown hg3 (by simp) (fun k hk=>by have:=(HO.out.lt k hk).1;omega);clear ho3 hg3 ho4;obtain ⟨ao3,cap3,rfl⟩:=aq (aE HO3.out);go_wp2_with fail
   go_ret
   exact ⟨_,rfl,aE HO3.out,HB3.out,lD HO3.out⟩
 ·have HC:=aa hcell;clear hcell;unfold maxLen at hm;have en:=fun w=>iO w ⟨g,off,none⟩ l.length cap
  have HO:Hid ((w.alloc (.cells #[] 153)).ownsRow w.heap.size 153 6 (.slice (some ⟨w.heap.size,0,none⟩) 0 0) 0 []):=by
   have h:=World.ownsRow_lit (base:=w.heap.size) (size:=6) (e:=153) w #[] 0 (Nat.le_refl _) (by decide) rfl;exact aa (by simpa using h)
  have HN:Hid (∀ j u,(eT l)[j]?=some u→(w.alloc (.cells #[] 153)).cell? ((⟨g,off,none⟩:Addr).add j)=some u):=fun j u hu=>by
   have hj:j < l.length * 6:=by
    have:=(List.getElem?_eq_some_iff.1 hu).1
    rw [hlen] at this;exact this
   have h2:(w.alloc (.cells #[] 153)).cell? ⟨g,off+j,none⟩=w.cell? ⟨g,off+j,none⟩:=World.cell?_alloc_lt _ _ _ (by exact hgl);have h3:(⟨g,off,none⟩:Addr).add j=⟨g,off+j,none⟩:=by simp [Addr.add]
   rw [h3,h2,HC.out j hj,hu]
  have HL:=aa hlen;have HOC:=aa (rowN_oneE l);clear hlen
  go_enter Tryz.func83,Tryz.ntmps83
  go_wp2_with (at_builtin;go_must (refine wpList_append_own _ rfl (.tmp 5) (.tmp 6) 26 rfl w.heap.size 153 i0 (.agg #[.int .i64 0,.int .i64 0,.int .i64 0,.int .i64 0,.int .i64 0,.int .i64 0]) 6 48 Tryz.underlying26 hi hz0 hz1 hz2 rfl (by decide) _ _ _ rfl HO.out ⟨g,off,none⟩ l.length cap (eT l) rfl HL.out HN.out HOC.out (by show _≤2 ^ 63 - 1;omega) (by omega) (by first | (simp;done) | (simp;omega)) ?_))
  intro v' w3 ho3 hg3 _;have ho4:w3.ownsRow w.heap.size 153 6 v' l.length (eT l):=by simpa using ho3
  have HO3:=aa ho4;have HB3:Hid (Below w.heap.size w w3):=((Below.refl _ _).alloc (Nat.le_refl _) _).grown hg3 (by simp) (fun k hk=>by have:=(HO.out.lt k hk).1;omega);clear ho3 hg3 ho4;obtain ⟨ao3,cap3,rfl⟩:=aq (aE HO3.out);go_wp2_with fail
  go_ret
  exact ⟨_,rfl,aE HO3.out,HB3.out,lD HO3.out⟩
theorem cloneAg_any (l:List (AgQ×Value)) (v:Value) (w:World) (hl:l.length≤1000) (h0:0 < l.length) (hr:bT w v 2 l.length (rowOf bw l)) (hn:∀ p∈l,lf w p.2 p.1.of) :
  Calls Tryz.prog 82 #[v] w fun e w'=>∃ u,e=.returned u∧w'.ownsRow w.heap.size 143 2 u l.length (rowOf bw l)∧Below w.heap.size w w':=by
 obtain ⟨i0,hi,hz0,hz1,hz2⟩:=info_parts infoAg9;have HOC:=aa (jQ l hn);clear hn;obtain ⟨hlen,hr⟩:=hr
 rcases hr with ⟨-,hn⟩ | ⟨g,off,cap,rfl,hle,hm,hgl,hcell⟩
 ·omega
 ·have HC:=aa hcell;clear hcell;unfold maxLen at hm;have en:=fun w=>eqlAggsNil w ⟨g,off,none⟩ l.length cap
  have HO:Hid ((w.alloc (.cells #[] 143)).ownsRow w.heap.size 143 2 (.slice (some ⟨w.heap.size,0,none⟩) 0 0) 0 []):=by
   have h:=World.ownsRow_lit (base:=w.heap.size) (size:=2) (e:=143) w #[] 0 (Nat.le_refl _) (by decide) rfl;exact aa (by simpa using h)
  have HN:Hid (∀ j u,(rowOf bw l)[j]?=some u→(w.alloc (.cells #[] 143)).cell? ((⟨g,off,none⟩:Addr).add j)=some u):=fun j u hu=>by
   have hj:j < l.length * 2:=by
    have:=(List.getElem?_eq_some_iff.1 hu).1
    rw [hlen] at this;exact this
   have h2:(w.alloc (.cells #[] 143)).cell? ⟨g,off+j,none⟩=w.cell? ⟨g,off+j,none⟩:=World.cell?_alloc_lt _ _ _ (by exact hgl);have h3:(⟨g,off,none⟩:Addr).add j=⟨g,off+j,none⟩:=by simp [Addr.add]
   rw [h3,h2,HC.out j hj,hu]
  have HL:=aa hlen;clear hlen
  go_enter Tryz.func82,Tryz.ntmps82
  go_wp2_with (at_builtin;go_must (refine wpList_append_own _ rfl (.tmp 5) (.tmp 6) 25 rfl w.heap.size 143 i0 (.agg #[.int .i64 0,.slice none 0 0]) 2 32 Tryz.underlying25 hi hz0 hz1 hz2 rfl (by decide) _ _ _ rfl HO.out ⟨g,off,none⟩ l.length cap (rowOf bw l) rfl HL.out HN.out HOC.out (by show _≤2 ^ 63 - 1;omega) (by omega) (by first | (simp;done) | (simp;omega)) ?_))
  intro v' w3 ho3 hg3 _;have ho4:w3.ownsRow w.heap.size 143 2 v' l.length (rowOf bw l):=by simpa using ho3
  have HO3:=aa ho4;have HB3:Hid (Below w.heap.size w w3):=((Below.refl _ _).alloc (Nat.le_refl _) _).grown hg3 (by simp) (fun k hk=>by have:=(HO.out.lt k hk).1;omega);clear ho3 hg3 ho4;obtain ⟨ao3,cap3,rfl⟩:=aq (aE HO3.out);go_wp2_with fail
  go_ret
  exact ⟨_,rfl,HO3.out,HB3.out⟩
end Go.Proofs.YtcgjflamgnjhcaaGreatDoor

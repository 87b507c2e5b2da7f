/- Own texts in one. Conditions: as named in each. -/
import Derived.Test.YtcgjflamgnjhcaaGreatDoorPrs8
set_option linter.unusedVariables false
set_option linter.unusedSimpArgs false
set_option maxRecDepth 100000
set_option maxHeartbeats 8000000
namespace Go.Proofs.YtcgjflamgnjhcaaGreatDoor
open Go.ChangeShapes Go.WideShapes Go.ChangeAt Go.RowKit
theorem dP {w w':World} {gp gm:Nat} {d e:Int} {v:Value} {wv:Value} (hk:KeptB w w' (fun q=>q=gp)) (h:PX w' gp gm wv [] d e) (hs:isSl v=true:=by rfl):ex w w' gp gm d e (.returned v):=⟨hk,v,wv,rfl,hs,h⟩
theorem cI {w w':World} {gp gm:Nat} {d c:Int} {v:Value} {wv:Value} (hk:KeptB w w' (fun q=>q=gp)) (hc:ErC c v) (h:PX w' gp gm wv [] d c):PXR w w' gp gm d (.error c) (.returned v):=⟨hk,v,wv,rfl,hc,h⟩
theorem mR {w w':World} {gp gm:Nat} {d:Int} {v:Value} {wv:Value} {l:List Nd} {ws:Ws} (hk:KeptB w w' (fun q=>q=gp)) (hn:NdsR w' (gp+1) v l) (h:PX w' gp gm wv ws d 0):PXR w w' gp gm d (.ok (l,ws)) (.returned v):=⟨hk,v,wv,rfl,hn,h⟩
theorem fk {w0 w w':World} {gp gm:Nat} {d:Int} {r:PR} {e:Ending} (hk:KeptB w0 w (fun q=>q=gp)) (h:PXR w w' gp gm d r e):PXR w0 w' gp gm d r e:=⟨af hk h.1,h.2⟩
theorem fj {w:World} {gp gm:Nat} {wv:Value} {ws:Ws} {d e:Int} (h:PX w gp gm wv ws d e) (d':Int):PX (w.setCell ⟨gp,2,none⟩ (.int .i64 d')) gp gm wv ws d' e∧KeptB w (w.setCell ⟨gp,2,none⟩ (.int .i64 d')) (fun q=>q=gp):=by
 have hb:=az h.ps.bd 2 (.int .i64 d') (by simp);have h9:=mL h.ps 2 (.int .i64 d') (d':=d') (e':=e) (by simpa using hb) h.ps.row h.ps.far h.ps.e0 h.ps.few;exact ⟨eS h h9.2 h9.1 (fun x hx=>hx),h9.2⟩
theorem rowErr_ps_and (gp gm:Nat) (d e rank:Int) (he:e≠0) (HE:∀ wv w,PX w gp gm wv [] d e→Calls Tryz.prog 150 #[.pointer (some ⟨gp,0,none⟩)] w fun r w'=>ex w w' gp gm d e r)
  (wv:Value) (w:World) (h:PX w gp gm wv [] d e) :
  Calls Tryz.prog 149 #[.pointer (some ⟨gp,0,none⟩),.int .i64 rank,.func (.func 150) #[.pointer (some ⟨gp,0,none⟩)] #[]] w fun r w'=>ex w w' gp gm d e r:=by
 have H1:=aa (HE wv w h);have HH:=aa he;clear h HE he
 go_enter Tryz.func149,Tryz.ntmps149
 go_wp2_with fail;refine H1.out.mono ?_;rintro r w1 ⟨hk1,v1,wv1,rfl,hs1,hp1⟩;have S1:=aa hs1;have K1:=aa hk1;have P1:Hid (∃ wv,PX w1 gp gm wv [] d e):=⟨wv1,hp1⟩;clear hk1 hp1 hs1 H1;go_wp2_with fail
 go_loopw [7] (fun v wr=>Hid (isSl v=true)∧Hid (KeptB w wr (fun q=>q=gp))∧Hid (∃ wv,PX wr gp gm wv [] d e)) (fun _ wr=>0)
 case atStart=>exact ⟨S1,K1,P1⟩
 case round =>
  clear K1 P1 S1;obtain ⟨HSL,HK,HS⟩:=hrel;obtain ⟨wv9,hp⟩:=HS.out;have TS:=bn gp gm rank wv9 [] d e wr hp.ps;unfold dL at TS;have e0:sgV sg0=.agg #[.int .i64 0,.int .i64 0,.bool false,.bool false]:=rfl;have e1:tkS rank []=none:=rfl;rw [e1,e0] at TS;have TSH:=aa TS;have HP:=aa hp;clear TS e0 e1 hp HS;go_wp2_with fail;refine TSH.out.mono ?_;rintro r w2 ⟨rfl,hk2,hp2⟩;have K2:=aa (af HK.out hk2);have P2:=aa (cH HP.out hk2 hp2);have BA:=aa (aj w2 (.cells #[.int .i64 0,.int .i64 0,.bool false,.bool false] 176));clear hk2 hp2 TSH;go_wp2_with fail
  go_ret
  exact dP (af K2.out (ae BA.out)) (aP P2.out BA.out) HSL.out
theorem rowErr_ps_not (gp gm:Nat) (d e rank:Int) (he:e≠0) (HE:∀ wv w,PX w gp gm wv [] d e→Calls Tryz.prog 168 #[.pointer (some ⟨gp,0,none⟩)] w fun r w'=>ex w w' gp gm d e r)
  (wv:Value) (w:World) (h:PX w gp gm wv [] d e) :
  Calls Tryz.prog 149 #[.pointer (some ⟨gp,0,none⟩),.int .i64 rank,.func (.func 168) #[.pointer (some ⟨gp,0,none⟩)] #[]] w fun r w'=>ex w w' gp gm d e r:=by
 have H1:=aa (HE wv w h);have HH:=aa he;clear h HE he
 go_enter Tryz.func149,Tryz.ntmps149
 go_wp2_with fail;refine H1.out.mono ?_;rintro r w1 ⟨hk1,v1,wv1,rfl,hs1,hp1⟩;have S1:=aa hs1;have K1:=aa hk1;have P1:Hid (∃ wv,PX w1 gp gm wv [] d e):=⟨wv1,hp1⟩;clear hk1 hp1 hs1 H1;go_wp2_with fail
 go_loopw [7] (fun v wr=>Hid (isSl v=true)∧Hid (KeptB w wr (fun q=>q=gp))∧Hid (∃ wv,PX wr gp gm wv [] d e)) (fun _ wr=>0)
 case atStart=>exact ⟨S1,K1,P1⟩
 case round =>
  clear K1 P1 S1;obtain ⟨HSL,HK,HS⟩:=hrel;obtain ⟨wv9,hp⟩:=HS.out;have TS:=bn gp gm rank wv9 [] d e wr hp.ps;unfold dL at TS;have e0:sgV sg0=.agg #[.int .i64 0,.int .i64 0,.bool false,.bool false]:=rfl;have e1:tkS rank []=none:=rfl;rw [e1,e0] at TS;have TSH:=aa TS;have HP:=aa hp;clear TS e0 e1 hp HS;go_wp2_with fail;refine TSH.out.mono ?_;rintro r w2 ⟨rfl,hk2,hp2⟩;have K2:=aa (af HK.out hk2);have P2:=aa (cH HP.out hk2 hp2);have BA:=aa (aj w2 (.cells #[.int .i64 0,.int .i64 0,.bool false,.bool false] 176));clear hk2 hp2 TSH;go_wp2_with fail
  go_ret
  exact dP (af K2.out (ae BA.out)) (aP P2.out BA.out) HSL.out
theorem rowErr_ps_product (gp gm:Nat) (d e rank:Int) (he:e≠0) (HE:∀ wv w,PX w gp gm wv [] d e→Calls Tryz.prog 199 #[.pointer (some ⟨gp,0,none⟩)] w fun r w'=>ex w w' gp gm d e r)
  (wv:Value) (w:World) (h:PX w gp gm wv [] d e) :
  Calls Tryz.prog 149 #[.pointer (some ⟨gp,0,none⟩),.int .i64 rank,.func (.func 199) #[.pointer (some ⟨gp,0,none⟩)] #[]] w fun r w'=>ex w w' gp gm d e r:=by
 have H1:=aa (HE wv w h);have HH:=aa he;clear h HE he
 go_enter Tryz.func149,Tryz.ntmps149
 go_wp2_with fail;refine H1.out.mono ?_;rintro r w1 ⟨hk1,v1,wv1,rfl,hs1,hp1⟩;have S1:=aa hs1;have K1:=aa hk1;have P1:Hid (∃ wv,PX w1 gp gm wv [] d e):=⟨wv1,hp1⟩;clear hk1 hp1 hs1 H1;go_wp2_with fail
 go_loopw [7] (fun v wr=>Hid (isSl v=true)∧Hid (KeptB w wr (fun q=>q=gp))∧Hid (∃ wv,PX wr gp gm wv [] d e)) (fun _ wr=>0)
 case atStart=>exact ⟨S1,K1,P1⟩
 case round =>
  clear K1 P1 S1;obtain ⟨HSL,HK,HS⟩:=hrel;obtain ⟨wv9,hp⟩:=HS.out;have TS:=bn gp gm rank wv9 [] d e wr hp.ps;unfold dL at TS;have e0:sgV sg0=.agg #[.int .i64 0,.int .i64 0,.bool false,.bool false]:=rfl;have e1:tkS rank []=none:=rfl;rw [e1,e0] at TS;have TSH:=aa TS;have HP:=aa hp;clear TS e0 e1 hp HS;go_wp2_with fail;refine TSH.out.mono ?_;rintro r w2 ⟨rfl,hk2,hp2⟩;have K2:=aa (af HK.out hk2);have P2:=aa (cH HP.out hk2 hp2);have BA:=aa (aj w2 (.cells #[.int .i64 0,.int .i64 0,.bool false,.bool false] 176));clear hk2 hp2 TSH;go_wp2_with fail
  go_ret
  exact dP (af K2.out (ae BA.out)) (aP P2.out BA.out) HSL.out
theorem rowErr_ps_unary (gp gm:Nat) (d e rank:Int) (he:e≠0) (HE:∀ wv w,PX w gp gm wv [] d e→Calls Tryz.prog 204 #[.pointer (some ⟨gp,0,none⟩)] w fun r w'=>ex w w' gp gm d e r)
  (wv:Value) (w:World) (h:PX w gp gm wv [] d e) :
  Calls Tryz.prog 149 #[.pointer (some ⟨gp,0,none⟩),.int .i64 rank,.func (.func 204) #[.pointer (some ⟨gp,0,none⟩)] #[]] w fun r w'=>ex w w' gp gm d e r:=by
 have H1:=aa (HE wv w h);have HH:=aa he;clear h HE he
 go_enter Tryz.func149,Tryz.ntmps149
 go_wp2_with fail;refine H1.out.mono ?_;rintro r w1 ⟨hk1,v1,wv1,rfl,hs1,hp1⟩;have S1:=aa hs1;have K1:=aa hk1;have P1:Hid (∃ wv,PX w1 gp gm wv [] d e):=⟨wv1,hp1⟩;clear hk1 hp1 hs1 H1;go_wp2_with fail
 go_loopw [7] (fun v wr=>Hid (isSl v=true)∧Hid (KeptB w wr (fun q=>q=gp))∧Hid (∃ wv,PX wr gp gm wv [] d e)) (fun _ wr=>0)
 case atStart=>exact ⟨S1,K1,P1⟩
 case round =>
  clear K1 P1 S1;obtain ⟨HSL,HK,HS⟩:=hrel;obtain ⟨wv9,hp⟩:=HS.out;have TS:=bn gp gm rank wv9 [] d e wr hp.ps;unfold dL at TS;have e0:sgV sg0=.agg #[.int .i64 0,.int .i64 0,.bool false,.bool false]:=rfl;have e1:tkS rank []=none:=rfl;rw [e1,e0] at TS;have TSH:=aa TS;have HP:=aa hp;clear TS e0 e1 hp HS;go_wp2_with fail;refine TSH.out.mono ?_;rintro r w2 ⟨rfl,hk2,hp2⟩;have K2:=aa (af HK.out hk2);have P2:=aa (cH HP.out hk2 hp2);have BA:=aa (aj w2 (.cells #[.int .i64 0,.int .i64 0,.bool false,.bool false] 176));clear hk2 hp2 TSH;go_wp2_with fail
  go_ret
  exact dP (af K2.out (ae BA.out)) (aP P2.out BA.out) HSL.out
theorem deeper12_ps_not (gp gm:Nat) (wv:Value) (ws:Ws) (w:World) (h:PX w gp gm wv ws 12 0) :
  Calls Tryz.prog 180 #[.pointer (some ⟨gp,0,none⟩),.func (.func 168) #[.pointer (some ⟨gp,0,none⟩)] #[]] w fun r w'=>PXR w w' gp gm 12 (.error 2) r:=by
 have c2:w.cell? ⟨gp,2,none⟩=some (.int .i64 12):=h.ps.bd.c 2 (by simp);have FL:=aa (fI gp gm 2 (by decide) wv ws 12 0 w h.ps);have HP:=aa h;clear h
 go_enter Tryz.func180,Tryz.ntmps180
 go_wp2_with fail;refine FL.out.mono ?_;rintro r w1 ⟨rfl,hk,hp⟩;have K1:=aa hk;have P1:=aa (cH HP.out hk hp);clear hk hp FL;go_wp2_with fail
 go_ret
 exact cI K1.out ⟨by decide,rfl⟩ P1.out
theorem deeperI_ps_not (T:PR) (gp gm:Nat) (wv:Value) (ws:Ws) (d:Int) (hd0:0≤d) (hd:d < 12) (w:World) (h:PX w gp gm wv ws d 0)
  (HI:∀ w,PX w gp gm wv ws (d+1) 0→Calls Tryz.prog 168 #[.pointer (some ⟨gp,0,none⟩)] w fun r w'=>PXR w w' gp gm (d+1) T r) :
  Calls Tryz.prog 180 #[.pointer (some ⟨gp,0,none⟩),.func (.func 168) #[.pointer (some ⟨gp,0,none⟩)] #[]] w fun r w'=>PXR w w' gp gm d T r:=by
 have c2:w.cell? ⟨gp,2,none⟩=some (.int .i64 d):=h.ps.bd.c 2 (by simp);have f2:=h.ps.bd.fz 2;have d12:(d == 12)=false:=by simp;omega
 have SD:=fj h (d+1);have K0:=aa SD.2;have IN:=aa (HI _ SD.1);clear h SD HI
 go_enter Tryz.func180,Tryz.ntmps180
 go_wp2_with fail;refine IN.out.mono ?_;rintro r w1 ⟨hk,hr⟩;have K1:=aa (af K0.out hk);have hst:∃ v,r=.returned v∧(∃ wv1 ws1 e1,PX w1 gp gm wv1 ws1 (d+1) e1)∧∀ w2,(∀ wv1 ws1 e1,PX w1 gp gm wv1 ws1 (d+1) e1→PX w2 gp gm wv1 ws1 d e1)→KeptB w1 w2 (fun q=>q=gp)→PXR w w2 gp gm d T (.returned v):=by
  cases T with
  | error c =>
   obtain ⟨v,wv1,e9,hc,hp⟩:=hr;exact ⟨v,e9,⟨_,_,_,hp⟩,fun w2 hpx hk2=>cI (af K1.out hk2) hc (hpx _ _ _ hp)⟩
  | ok p =>
   obtain ⟨v,wv1,e9,hn,hp⟩:=hr;exact ⟨v,e9,⟨_,_,_,hp⟩,fun w2 hpx hk2=>⟨af K1.out hk2,v,wv1,rfl,aV hn hk2 (fun q e=>by omega),hpx _ _ _ hp⟩⟩
 obtain ⟨v,rfl,⟨wv1,ws1,e1,hp⟩,hfin⟩:=hst;have c3:w1.cell? ⟨gp,2,none⟩=some (.int .i64 (d+1)):=hp.ps.bd.c 2 (by simp);have f3:=hp.ps.bd.fz 2;have FIN:=aa hfin;have HP1:=aa hp;have es:Hid (d+1 - 1=d):=by show _=_;omega
 have FX:Hid (∀ w2,w2=w1.setCell ⟨gp,2,none⟩ (.int .i64 (d+1 - 1))→PXR w w2 gp gm d T (.returned v)):=fun w2 e2=>by
  subst e2;rw [es.out];exact hfin _ (fun wv1 ws1 e1 hp=>(fj hp _).1) (fj hp _).2
 clear hk hr hp hfin IN FIN;go_wp2_with fail
 go_ret
 first
  | exact FX.out _ rfl
  |(have h9:=FX.out _ rfl;rw [es.out] at h9;exact h9)
theorem deeper_ps_not (inner:Ws→Nat→PR) (gp gm:Nat) (wv:Value) (ws:Ws) (d:Nat) (hd:d≤12) (w:World) (h:PX w gp gm wv ws (d:Int) 0) (hT:deepP inner ws d≠.error 99)
  (HI:d < 12→∀ w,PX w gp gm wv ws ((d+1:Nat):Int) 0→inner ws (d+1)≠.error 99→Calls Tryz.prog 168 #[.pointer (some ⟨gp,0,none⟩)] w fun r w'=>PXR w w' gp gm ((d+1:Nat):Int) (inner ws (d+1)) r) :
  Calls Tryz.prog 180 #[.pointer (some ⟨gp,0,none⟩),.func (.func 168) #[.pointer (some ⟨gp,0,none⟩)] #[]] w fun r w'=>PXR w w' gp gm (d:Int) (deepP inner ws d) r:=by
 by_cases h12:d=12
 ·subst h12;have e:deepP inner ws 12=.error 2:=by unfold deepP;rw [if_pos rfl]
  rw [e];exact deeper12_ps_not gp gm wv ws w h
 ·have e:deepP inner ws d=inner ws (d+1):=by unfold deepP;rw [if_neg h12]
  rw [e] at hT ⊢;exact deeperI_ps_not (inner ws (d+1)) gp gm wv ws (d:Int) (by omega) (by omega) w h (fun w hp=>HI (by omega) w hp hT)
theorem deeper12_ps_unary (gp gm:Nat) (wv:Value) (ws:Ws) (w:World) (h:PX w gp gm wv ws 12 0) :
  Calls Tryz.prog 180 #[.pointer (some ⟨gp,0,none⟩),.func (.func 204) #[.pointer (some ⟨gp,0,none⟩)] #[]] w fun r w'=>PXR w w' gp gm 12 (.error 2) r:=by
 have c2:w.cell? ⟨gp,2,none⟩=some (.int .i64 12):=h.ps.bd.c 2 (by simp);have FL:=aa (fI gp gm 2 (by decide) wv ws 12 0 w h.ps);have HP:=aa h;clear h
 go_enter Tryz.func180,Tryz.ntmps180
 go_wp2_with fail;refine FL.out.mono ?_;rintro r w1 ⟨rfl,hk,hp⟩;have K1:=aa hk;have P1:=aa (cH HP.out hk hp);clear hk hp FL;go_wp2_with fail
 go_ret
 exact cI K1.out ⟨by decide,rfl⟩ P1.out
theorem deeperI_ps_unary (T:PR) (gp gm:Nat) (wv:Value) (ws:Ws) (d:Int) (hd0:0≤d) (hd:d < 12) (w:World) (h:PX w gp gm wv ws d 0)
  (HI:∀ w,PX w gp gm wv ws (d+1) 0→Calls Tryz.prog 204 #[.pointer (some ⟨gp,0,none⟩)] w fun r w'=>PXR w w' gp gm (d+1) T r) :
  Calls Tryz.prog 180 #[.pointer (some ⟨gp,0,none⟩),.func (.func 204) #[.pointer (some ⟨gp,0,none⟩)] #[]] w fun r w'=>PXR w w' gp gm d T r:=by
 have c2:w.cell? ⟨gp,2,none⟩=some (.int .i64 d):=h.ps.bd.c 2 (by simp);have f2:=h.ps.bd.fz 2;have d12:(d == 12)=false:=by simp;omega
 have SD:=fj h (d+1);have K0:=aa SD.2;have IN:=aa (HI _ SD.1);clear h SD HI
 go_enter Tryz.func180,Tryz.ntmps180
 go_wp2_with fail;refine IN.out.mono ?_;rintro r w1 ⟨hk,hr⟩;have K1:=aa (af K0.out hk);have hst:∃ v,r=.returned v∧(∃ wv1 ws1 e1,PX w1 gp gm wv1 ws1 (d+1) e1)∧∀ w2,(∀ wv1 ws1 e1,PX w1 gp gm wv1 ws1 (d+1) e1→PX w2 gp gm wv1 ws1 d e1)→KeptB w1 w2 (fun q=>q=gp)→PXR w w2 gp gm d T (.returned v):=by
  cases T with
  | error c =>
   obtain ⟨v,wv1,e9,hc,hp⟩:=hr;exact ⟨v,e9,⟨_,_,_,hp⟩,fun w2 hpx hk2=>cI (af K1.out hk2) hc (hpx _ _ _ hp)⟩
  | ok p =>
   obtain ⟨v,wv1,e9,hn,hp⟩:=hr;exact ⟨v,e9,⟨_,_,_,hp⟩,fun w2 hpx hk2=>⟨af K1.out hk2,v,wv1,rfl,aV hn hk2 (fun q e=>by omega),hpx _ _ _ hp⟩⟩
 obtain ⟨v,rfl,⟨wv1,ws1,e1,hp⟩,hfin⟩:=hst;have c3:w1.cell? ⟨gp,2,none⟩=some (.int .i64 (d+1)):=hp.ps.bd.c 2 (by simp);have f3:=hp.ps.bd.fz 2;have FIN:=aa hfin;have HP1:=aa hp;have es:Hid (d+1 - 1=d):=by show _=_;omega
 have FX:Hid (∀ w2,w2=w1.setCell ⟨gp,2,none⟩ (.int .i64 (d+1 - 1))→PXR w w2 gp gm d T (.returned v)):=fun w2 e2=>by
  subst e2;rw [es.out];exact hfin _ (fun wv1 ws1 e1 hp=>(fj hp _).1) (fj hp _).2
 clear hk hr hp hfin IN FIN;go_wp2_with fail
 go_ret
 first
  | exact FX.out _ rfl
  |(have h9:=FX.out _ rfl;rw [es.out] at h9;exact h9)
theorem deeper_ps_unary (inner:Ws→Nat→PR) (gp gm:Nat) (wv:Value) (ws:Ws) (d:Nat) (hd:d≤12) (w:World) (h:PX w gp gm wv ws (d:Int) 0) (hT:deepP inner ws d≠.error 99)
  (HI:d < 12→∀ w,PX w gp gm wv ws ((d+1:Nat):Int) 0→inner ws (d+1)≠.error 99→Calls Tryz.prog 204 #[.pointer (some ⟨gp,0,none⟩)] w fun r w'=>PXR w w' gp gm ((d+1:Nat):Int) (inner ws (d+1)) r) :
  Calls Tryz.prog 180 #[.pointer (some ⟨gp,0,none⟩),.func (.func 204) #[.pointer (some ⟨gp,0,none⟩)] #[]] w fun r w'=>PXR w w' gp gm (d:Int) (deepP inner ws d) r:=by
 by_cases h12:d=12
 ·subst h12;have e:deepP inner ws 12=.error 2:=by unfold deepP;rw [if_pos rfl]
  rw [e];exact deeper12_ps_unary gp gm wv ws w h
 ·have e:deepP inner ws d=inner ws (d+1):=by unfold deepP;rw [if_neg h12]
  rw [e] at hT ⊢;exact deeperI_ps_unary (inner ws (d+1)) gp gm wv ws (d:Int) (by omega) (by omega) w h (fun w hp=>HI (by omega) w hp hT)
theorem deeper12_ps_expr (gp gm:Nat) (wv:Value) (ws:Ws) (w:World) (h:PX w gp gm wv ws 12 0) :
  Calls Tryz.prog 180 #[.pointer (some ⟨gp,0,none⟩),.func (.func 110) #[.pointer (some ⟨gp,0,none⟩)] #[]] w fun r w'=>PXR w w' gp gm 12 (.error 2) r:=by
 have c2:w.cell? ⟨gp,2,none⟩=some (.int .i64 12):=h.ps.bd.c 2 (by simp);have FL:=aa (fI gp gm 2 (by decide) wv ws 12 0 w h.ps);have HP:=aa h;clear h
 go_enter Tryz.func180,Tryz.ntmps180
 go_wp2_with fail;refine FL.out.mono ?_;rintro r w1 ⟨rfl,hk,hp⟩;have K1:=aa hk;have P1:=aa (cH HP.out hk hp);clear hk hp FL;go_wp2_with fail
 go_ret
 exact cI K1.out ⟨by decide,rfl⟩ P1.out
theorem deeperI_ps_expr (T:PR) (gp gm:Nat) (wv:Value) (ws:Ws) (d:Int) (hd0:0≤d) (hd:d < 12) (w:World) (h:PX w gp gm wv ws d 0)
  (HI:∀ w,PX w gp gm wv ws (d+1) 0→Calls Tryz.prog 110 #[.pointer (some ⟨gp,0,none⟩)] w fun r w'=>PXR w w' gp gm (d+1) T r) :
  Calls Tryz.prog 180 #[.pointer (some ⟨gp,0,none⟩),.func (.func 110) #[.pointer (some ⟨gp,0,none⟩)] #[]] w fun r w'=>PXR w w' gp gm d T r:=by
 have c2:w.cell? ⟨gp,2,none⟩=some (.int .i64 d):=h.ps.bd.c 2 (by simp);have f2:=h.ps.bd.fz 2;have d12:(d == 12)=false:=by simp;omega
 have SD:=fj h (d+1);have K0:=aa SD.2;have IN:=aa (HI _ SD.1);clear h SD HI
 go_enter Tryz.func180,Tryz.ntmps180
 go_wp2_with fail;refine IN.out.mono ?_;rintro r w1 ⟨hk,hr⟩;have K1:=aa (af K0.out hk);have hst:∃ v,r=.returned v∧(∃ wv1 ws1 e1,PX w1 gp gm wv1 ws1 (d+1) e1)∧∀ w2,(∀ wv1 ws1 e1,PX w1 gp gm wv1 ws1 (d+1) e1→PX w2 gp gm wv1 ws1 d e1)→KeptB w1 w2 (fun q=>q=gp)→PXR w w2 gp gm d T (.returned v):=by
  cases T with
  | error c =>
   obtain ⟨v,wv1,e9,hc,hp⟩:=hr;exact ⟨v,e9,⟨_,_,_,hp⟩,fun w2 hpx hk2=>cI (af K1.out hk2) hc (hpx _ _ _ hp)⟩
  | ok p =>
   obtain ⟨v,wv1,e9,hn,hp⟩:=hr;exact ⟨v,e9,⟨_,_,_,hp⟩,fun w2 hpx hk2=>⟨af K1.out hk2,v,wv1,rfl,aV hn hk2 (fun q e=>by omega),hpx _ _ _ hp⟩⟩
 obtain ⟨v,rfl,⟨wv1,ws1,e1,hp⟩,hfin⟩:=hst;have c3:w1.cell? ⟨gp,2,none⟩=some (.int .i64 (d+1)):=hp.ps.bd.c 2 (by simp);have f3:=hp.ps.bd.fz 2;have FIN:=aa hfin;have HP1:=aa hp;have es:Hid (d+1 - 1=d):=by show _=_;omega
 have FX:Hid (∀ w2,w2=w1.setCell ⟨gp,2,none⟩ (.int .i64 (d+1 - 1))→PXR w w2 gp gm d T (.returned v)):=fun w2 e2=>by
  subst e2;rw [es.out];exact hfin _ (fun wv1 ws1 e1 hp=>(fj hp _).1) (fj hp _).2
 clear hk hr hp hfin IN FIN;go_wp2_with fail
 go_ret
 first
  | exact FX.out _ rfl
  |(have h9:=FX.out _ rfl;rw [es.out] at h9;exact h9)
theorem deeper_ps_expr (inner:Ws→Nat→PR) (gp gm:Nat) (wv:Value) (ws:Ws) (d:Nat) (hd:d≤12) (w:World) (h:PX w gp gm wv ws (d:Int) 0) (hT:deepP inner ws d≠.error 99)
  (HI:d < 12→∀ w,PX w gp gm wv ws ((d+1:Nat):Int) 0→inner ws (d+1)≠.error 99→Calls Tryz.prog 110 #[.pointer (some ⟨gp,0,none⟩)] w fun r w'=>PXR w w' gp gm ((d+1:Nat):Int) (inner ws (d+1)) r) :
  Calls Tryz.prog 180 #[.pointer (some ⟨gp,0,none⟩),.func (.func 110) #[.pointer (some ⟨gp,0,none⟩)] #[]] w fun r w'=>PXR w w' gp gm (d:Int) (deepP inner ws d) r:=by
 by_cases h12:d=12
 ·subst h12;have e:deepP inner ws 12=.error 2:=by unfold deepP;rw [if_pos rfl]
  rw [e];exact deeper12_ps_expr gp gm wv ws w h
 ·have e:deepP inner ws d=inner ws (d+1):=by unfold deepP;rw [if_neg h12]
  rw [e] at hT ⊢;exact deeperI_ps_expr (inner ws (d+1)) gp gm wv ws (d:Int) (by omega) (by omega) w h (fun w hp=>HI (by omega) w hp hT)
theorem fV (gp gm:Nat) (word:ByteArray) (hw0:word≠⟨#[]⟩) (wv:Value) (ws ws1:Ws) (d e:Int) (w:World) (h:PX w gp gm wv ws d e) (ht:tk word ws=some ws1) :
  Calls Tryz.prog 109 #[.pointer (some ⟨gp,0,none⟩),.string word] w fun r w'=>r=.returned (.bool true)∧KeptB w w' (fun q=>q=gp)∧∃ wv',PX w' gp gm wv' ws1 d e:=by
 refine (ky gp gm word hw0 wv ws d e w h.ps).mono fun r w' h9=>?_
 unfold oE at h9;rw [ht] at h9;obtain ⟨h1,h2,wv',h3⟩:=h9;exact ⟨h1,h2,wv',eS h h2 h3 (pL ht)⟩
theorem fQ (gp gm:Nat) (word:ByteArray) (hw0:word≠⟨#[]⟩) (wv:Value) (ws:Ws) (d e:Int) (w:World) (h:PX w gp gm wv ws d e) (ht:tk word ws=none) :
  Calls Tryz.prog 109 #[.pointer (some ⟨gp,0,none⟩),.string word] w fun r w'=>r=.returned (.bool false)∧KeptB w w' (fun q=>q=gp)∧PX w' gp gm wv ws d e:=by
 refine (ky gp gm word hw0 wv ws d e w h.ps).mono fun r w' h9=>?_
 unfold oE at h9;rw [ht] at h9;obtain ⟨h1,h2,h3⟩:=h9;exact ⟨h1,h2,eS h h2 h3 (fun x hx=>hx)⟩
theorem iJ (gp gm:Nat) (word:ByteArray) (hw0:word≠⟨#[]⟩) (wv:Value) (ws ws1:Ws) (d e:Int) (w:World) (h:PX w gp gm wv ws d e) (ht:tk word ws=some ws1) :
  Calls Tryz.prog 107 #[.pointer (some ⟨gp,0,none⟩),.string word] w fun r w'=>r=.returned (.tuple #[])∧KeptB w w' (fun q=>q=gp)∧∃ wv',PX w' gp gm wv' ws1 d e:=by
 refine (mE gp gm word hw0 wv ws d e w h.ps).mono fun r w' ⟨h1,h2,wv',h3⟩=>?_
 rw [ht] at h3;exact ⟨h1,h2,wv',eS h h2 h3 (pL ht)⟩
theorem fG (gp gm:Nat) (word:ByteArray) (hw0:word≠⟨#[]⟩) (wv:Value) (ws:Ws) (d e:Int) (w:World) (h:PX w gp gm wv ws d e) (ht:tk word ws=none) :
  Calls Tryz.prog 107 #[.pointer (some ⟨gp,0,none⟩),.string word] w fun r w'=>r=.returned (.tuple #[])∧KeptB w w' (fun q=>q=gp)∧∃ wv',PX w' gp gm wv' [] d (pi e 4):=by
 refine (mE gp gm word hw0 wv ws d e w h.ps).mono fun r w' ⟨h1,h2,wv',h3⟩=>?_
 rw [ht] at h3;exact ⟨h1,h2,wv',cH h h2 h3⟩
theorem il (gp gm:Nat) (op:Int) (u v wv:Value) (ws:Ws) (d e:Int) (he:e≠0) (w:World) (h:PX w gp gm wv ws d e) :
  Calls Tryz.prog 179 #[.pointer (some ⟨gp,0,none⟩),.int .i64 op,u,v] w fun r w'=>r=.returned (.slice none 0 0)∧KeptB w w' (fun q=>q=gp)∧PX w' gp gm wv ws d e :=
 (dR gp gm op u v wv ws d e he w h.ps).mono fun r w' ⟨h1,h2⟩=>⟨h1,ae h2,aP h h2⟩
theorem jb (gp gm:Nat) (op:Int) (ho:ar op=1) (u wv:Value) (l:List Nd) (ws:Ws) (d:Int) (w:World) (h:PX w gp gm wv ws d 0) (hu:NdsR w (gp+1) u l) :
  Calls Tryz.prog 179 #[.pointer (some ⟨gp,0,none⟩),.int .i64 op,u,.slice none 0 0] w fun r w'=>PXR w w' gp gm d (wth ws (jn1 op l)) r :=
 (jD gp gm op ho u wv l ws d w h.ps hu).mono fun r w' h9=>pM (w0:=w) h (fun x hx=>hx) h9
theorem isNull_false (gp gm:Nat) (u wv:Value) (l:List Nd) (ws ws1:Ws) (d:Int) (w:World) (h:PX w gp gm wv ws d 0) (hu:NdsR w (gp+1) u l)
  (HT:Calls Tryz.prog 109 #[.pointer (some ⟨gp,0,none⟩),.string wNot] w fun r w'=>r=.returned (.bool false)∧KeptB w w' (fun q=>q=gp)∧∃ wv',PX w' gp gm wv' ws1 d 0) :
  Calls Tryz.prog 192 #[.pointer (some ⟨gp,0,none⟩),u] w fun r w'=>PXR w w' gp gm d (fP l false ws1) r:=by
 have HTT:=aa HT;have HU:=aa hu;cases hn:tk wNull ws1 with
 | none =>
  have e:fP l false ws1=.error 4:=by unfold fP;rw [hn]
  rw [e];have HNN:=aa hn;clear h HT hu e hn
  go_enter Tryz.func192,Tryz.ntmps192
  go_wp2_with fail;refine HTT.out.mono ?_;rintro r w1 ⟨rfl,hk1,wv1,hp1⟩;have K1:=aa hk1;have MU:=aa (fG gp gm wNull (by decide) wv1 ws1 d 0 w1 hp1 HNN.out);clear hk1 hp1 HTT;go_wp2_with fail;refine MU.out.mono ?_;rintro r w2 ⟨rfl,hk2,wv2,hp2⟩;have K2:=aa (af K1.out hk2);rw [mJ] at hp2;have JE:=aa (il gp gm 5 u (.slice none 0 0) wv2 [] d 4 (by decide) w2 hp2);clear hk2 hp2 MU K1;go_wp2_with fail;refine JE.out.mono ?_;rintro r w3 ⟨rfl,hk3,hp3⟩;have K3:=aa (af K2.out hk3);have P3:=aa hp3;clear hk3 hp3 JE K2;go_wp2_with fail
  go_ret
  exact cI K3.out ⟨by decide,rfl⟩ P3.out
 | some ws2 =>
  have e:fP l false ws1=wth ws2 (jnD false (jn1 5 l)):=by unfold fP;rw [hn]
  rw [e];have HNN:=aa hn;have hlt:=h.ps.bd.lt;generalize hJ:jn1 5 l=J at *;have HJ:=aa hJ;clear h HT hu e hn hJ
  go_enter Tryz.func192,Tryz.ntmps192
  go_wp2_with fail;refine HTT.out.mono ?_;rintro r w1 ⟨rfl,hk1,wv1,hp1⟩;have K1:=aa hk1;have MU:=aa (iJ gp gm wNull (by decide) wv1 ws1 ws2 d 0 w1 hp1 HNN.out);clear hk1 hp1 HTT;go_wp2_with fail;refine MU.out.mono ?_;rintro r w2 ⟨rfl,hk2,wv2,hp2⟩;have K2:=aa (af K1.out hk2);have JE:=jb gp gm 5 (by decide) u wv2 l ws2 d w2 hp2 (aV HU.out (af K1.out hk2) (fun q e=>by omega));rw [HJ.out] at JE;have JE:=aa JE;clear hk2 hp2 MU K1;go_wp2_with fail;refine JE.out.mono ?_;rintro r w3 ⟨hk3,hr3⟩;have K3:=aa (af K2.out hk3);clear hk3 JE K2 HJ;cases J with
  | error c =>
   obtain ⟨v3,wv3,rfl,hc,hp3⟩:=hr3;have HC:=aa hc;have P3:=aa hp3;clear hc hp3;go_wp2_with fail
   go_ret
   exact cI K3.out HC.out P3.out
  | ok z =>
   obtain ⟨v3,wv3,rfl,hn3,hp3⟩:=hr3;have N3:=aa hn3;have P3:=aa hp3;clear hn3 hp3;go_wp2_with fail
   go_ret
   exact mR K3.out N3.out P3.out
theorem isNull_true (gp gm:Nat) (u wv:Value) (l:List Nd) (ws ws1:Ws) (d:Int) (w:World) (h:PX w gp gm wv ws d 0) (hu:NdsR w (gp+1) u l)
  (HT:Calls Tryz.prog 109 #[.pointer (some ⟨gp,0,none⟩),.string wNot] w fun r w'=>r=.returned (.bool true)∧KeptB w w' (fun q=>q=gp)∧∃ wv',PX w' gp gm wv' ws1 d 0) :
  Calls Tryz.prog 192 #[.pointer (some ⟨gp,0,none⟩),u] w fun r w'=>PXR w w' gp gm d (fP l true ws1) r:=by
 have HTT:=aa HT;have HU:=aa hu;cases hn:tk wNull ws1 with
 | none =>
  have e:fP l true ws1=.error 4:=by unfold fP;rw [hn]
  rw [e];have HNN:=aa hn;clear h HT hu e hn
  go_enter Tryz.func192,Tryz.ntmps192
  go_wp2_with fail;refine HTT.out.mono ?_;rintro r w1 ⟨rfl,hk1,wv1,hp1⟩;have K1:=aa hk1;have MU:=aa (fG gp gm wNull (by decide) wv1 ws1 d 0 w1 hp1 HNN.out);clear hk1 hp1 HTT;go_wp2_with fail;refine MU.out.mono ?_;rintro r w2 ⟨rfl,hk2,wv2,hp2⟩;have K2:=aa (af K1.out hk2);rw [mJ] at hp2;have JE:=aa (il gp gm 5 u (.slice none 0 0) wv2 [] d 4 (by decide) w2 hp2);clear hk2 hp2 MU K1;go_wp2_with fail;refine JE.out.mono ?_;rintro r w3 ⟨rfl,hk3,hp3⟩;have K3:=aa (af K2.out hk3);have P3:=aa hp3;clear hk3 hp3 JE K2;have JE:=aa (il gp gm 4 (.slice none 0 0) (.slice none 0 0) wv2 [] d 4 (by decide) w3 P3.out);go_wp2_with fail;refine JE.out.mono ?_;rintro r w4 ⟨rfl,hk4,hp4⟩;have K4:=aa (af K3.out hk4);have P4:=aa hp4;clear hk4 hp4 JE K3 P3;go_wp2_with fail
  go_ret
  exact cI K4.out ⟨by decide,rfl⟩ P4.out
 | some ws2 =>
  have e:fP l true ws1=wth ws2 (jnD true (jn1 5 l)):=by unfold fP;rw [hn]
  rw [e];have HNN:=aa hn;have hlt:=h.ps.bd.lt;generalize hJ:jn1 5 l=J at *;have HJ:=aa hJ;clear h HT hu e hn hJ
  go_enter Tryz.func192,Tryz.ntmps192
  go_wp2_with fail;refine HTT.out.mono ?_;rintro r w1 ⟨rfl,hk1,wv1,hp1⟩;have K1:=aa hk1;have MU:=aa (iJ gp gm wNull (by decide) wv1 ws1 ws2 d 0 w1 hp1 HNN.out);clear hk1 hp1 HTT;go_wp2_with fail;refine MU.out.mono ?_;rintro r w2 ⟨rfl,hk2,wv2,hp2⟩;have K2:=aa (af K1.out hk2);have JE:=jb gp gm 5 (by decide) u wv2 l ws2 d w2 hp2 (aV HU.out (af K1.out hk2) (fun q e=>by omega));rw [HJ.out] at JE;have JE:=aa JE;clear hk2 hp2 MU K1;go_wp2_with fail;refine JE.out.mono ?_;rintro r w3 ⟨hk3,hr3⟩;have K3:=aa (af K2.out hk3);clear hk3 JE K2 HJ;cases J with
  | error c =>
   obtain ⟨v3,wv3,rfl,hc,hp3⟩:=hr3;have HC:=aa hc;have P3:=aa hp3;clear hc hp3;have JE:=aa (il gp gm 4 v3 (.slice none 0 0) wv3 [] d c HC.out.1 w3 P3.out);go_wp2_with fail;refine JE.out.mono ?_;rintro r w4 ⟨rfl,hk4,hp4⟩;have K4:=aa (af K3.out hk4);have P4:=aa hp4;clear hk4 hp4 JE K3 P3;go_wp2_with fail
   go_ret
   exact cI K4.out ⟨HC.out.1,rfl⟩ P4.out
  | ok z =>
   obtain ⟨v3,wv3,rfl,hn3,hp3⟩:=hr3;have JE:=aa (jb gp gm 4 (by decide) v3 wv3 z ws2 d w3 hp3 hn3);clear hn3 hp3;go_wp2_with fail;refine JE.out.mono ?_;intro r w4 h4;have F4:=aa (fk K3.out h4);obtain ⟨v4,rfl⟩:∃ v,r=.returned v:=by
    have h5:=h4.2;generalize wth ws2 (jn1 4 z)=T at h5;cases T with
    | error c=>obtain ⟨v,wv,e,-⟩:=h5;exact ⟨v,e⟩
    | ok p=>obtain ⟨v,wv,e,-⟩:=h5;exact ⟨v,e⟩
   clear h4 JE K3;go_wp2_with fail
   go_ret
   exact F4.out
theorem isNull_any (gp gm:Nat) (u wv:Value) (l:List Nd) (ws:Ws) (d:Int) (w:World) (h:PX w gp gm wv ws d 0) (hu:NdsR w (gp+1) u l) :
  Calls Tryz.prog 192 #[.pointer (some ⟨gp,0,none⟩),u] w fun r w'=>PXR w w' gp gm d (isP l ws) r:=by
 unfold isP;cases ht:tk wNot ws with
 | none=>exact isNull_false gp gm u wv l ws ws d w h hu ((fQ gp gm wNot (by decide) wv ws d 0 w h ht).mono fun r w' ⟨h1,h2,h3⟩=>⟨h1,h2,wv,h3⟩)
 | some ws1=>exact isNull_true gp gm u wv l ws ws1 d w h hu (fV gp gm wNot (by decide) wv ws ws1 d 0 w h ht)
end Go.Proofs.YtcgjflamgnjhcaaGreatDoor

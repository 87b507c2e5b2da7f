/- Own texts in one. Conditions: as named in each. -/
import Derived.Test.YtcgjflamgnjhcaaGreatDoorPrs8
set_option linter.unusedVariables false
set_option linter.unusedSimpArgs false
set_option maxRecDepth 100000
set_option maxHeartbeats 8000000
namespace Go.Proofs.YtcgjflamgnjhcaaGreatDoor
open Go.ChangeShapes Go.WideShapes Go.ChangeAt Go.RowKit
theorem dL {w w':World} {gp gm:Nat} {d e:Int} {v:Value} {wv:Value} (hk:KeptB w w' (fun q=>q=gp)) (h:PX w' gp gm wv [] d e) (hs:isSl v=true:=by rfl):ek w w' gp gm d e (.returned v):=⟨hk,v,wv,rfl,hs,h⟩
theorem cH {w w':World} {gp gm:Nat} {d c:Int} {v:Value} {wv:Value} (hk:KeptB w w' (fun q=>q=gp)) (hc:ErC c v) (h:PX w' gp gm wv [] d c):PXR w w' gp gm d (.error c) (.returned v):=⟨hk,v,wv,rfl,hc,h⟩
theorem mF {w w':World} {gp gm:Nat} {d:Int} {v:Value} {wv:Value} {l:List Nd} {ws:Ws} (hk:KeptB w w' (fun q=>q=gp)) (hn:NdsR w' (gp+1) v l) (h:PX w' gp gm wv ws d 0):PXR w w' gp gm d (.ok (l,ws)) (.returned v):=⟨hk,v,wv,rfl,hn,h⟩
theorem eY {w0 w w':World} {gp gm:Nat} {d:Int} {r:PR} {e:Ending} (hk:KeptB w0 w (fun q=>q=gp)) (h:PXR w w' gp gm d r e):PXR w0 w' gp gm d r e:=⟨af hk h.1,h.2⟩
theorem ff {w:World} {gp gm:Nat} {wv:Value} {ws:Ws} {d e:Int} (h:PX w gp gm wv ws d e) (d':Int):PX (w.setCell ⟨gp,2,none⟩ (.int .i64 d')) gp gm wv ws d' e∧KeptB w (w.setCell ⟨gp,2,none⟩ (.int .i64 d')) (fun q=>q=gp):=by
 have hb:=ay h.ps.bd 2 (.int .i64 d') (by simp);have h9:=nu h.ps 2 (.int .i64 d') (d':=d') (e':=e) (by simpa using hb) h.ps.row h.ps.far h.ps.e0 h.ps.few;exact ⟨eH h h9.2 h9.1 (fun x hx=>hx),h9.2⟩
theorem rowErr_ps_and (gp gm:Nat) (d e rank:Int) (he:e≠0) (HE:∀ wv w,PX w gp gm wv [] d e→Calls Tryz.prog 150 #[.pointer (some ⟨gp,0,none⟩)] w fun r w'=>ek w w' gp gm d e r)
  (wv:Value) (w:World) (h:PX w gp gm wv [] d e) :
  Calls Tryz.prog 149 #[.pointer (some ⟨gp,0,none⟩),.int .i64 rank,.func (.func 150) #[.pointer (some ⟨gp,0,none⟩)] #[]] w fun r w'=>ek w w' gp gm d e r:=by
 have H1:=aa (HE wv w h);have HH:=aa he;clear h HE he
 go_enter Tryz.func149,Tryz.ntmps149
 go_wp2_with fail;refine H1.out.mono ?_;rintro r w1 ⟨hk1,v1,wv1,rfl,hs1,hp1⟩;have S1:=aa hs1;have K1:=aa hk1;have P1:Hid (∃ wv,PX w1 gp gm wv [] d e):=⟨wv1,hp1⟩;clear hk1 hp1 hs1 H1;go_wp2_with fail
 go_loopw [7] (fun v wr=>Hid (isSl v=true)∧Hid (KeptB w wr (fun q=>q=gp))∧Hid (∃ wv,PX wr gp gm wv [] d e)) (fun _ wr=>0)
 case atStart=>exact ⟨S1,K1,P1⟩
 case round =>
  clear K1 P1 S1;obtain ⟨HSL,HK,HS⟩:=hrel;obtain ⟨wv9,hp⟩:=HS.out;have TS:=bj gp gm rank wv9 [] d e wr hp.ps;unfold dJ at TS;have e0:sgV sg0=.agg #[.int .i64 0,.int .i64 0,.bool false,.bool false]:=rfl;have e1:tkS rank []=none:=rfl;rw [e1,e0] at TS;have TSH:=aa TS;have HP:=aa hp;clear TS e0 e1 hp HS;go_wp2_with fail;refine TSH.out.mono ?_;rintro r w2 ⟨rfl,hk2,hp2⟩;have K2:=aa (af HK.out hk2);have P2:=aa (cC HP.out hk2 hp2);have BA:=aa (aj w2 (.cells #[.int .i64 0,.int .i64 0,.bool false,.bool false] 176));clear hk2 hp2 TSH;go_wp2_with fail
  go_ret
  exact dL (af K2.out (ae BA.out)) (aO P2.out BA.out) HSL.out
theorem rowErr_ps_not (gp gm:Nat) (d e rank:Int) (he:e≠0) (HE:∀ wv w,PX w gp gm wv [] d e→Calls Tryz.prog 168 #[.pointer (some ⟨gp,0,none⟩)] w fun r w'=>ek w w' gp gm d e r)
  (wv:Value) (w:World) (h:PX w gp gm wv [] d e) :
  Calls Tryz.prog 149 #[.pointer (some ⟨gp,0,none⟩),.int .i64 rank,.func (.func 168) #[.pointer (some ⟨gp,0,none⟩)] #[]] w fun r w'=>ek w w' gp gm d e r:=by
 have H1:=aa (HE wv w h);have HH:=aa he;clear h HE he
 go_enter Tryz.func149,Tryz.ntmps149
 go_wp2_with fail;refine H1.out.mono ?_;rintro r w1 ⟨hk1,v1,wv1,rfl,hs1,hp1⟩;have S1:=aa hs1;have K1:=aa hk1;have P1:Hid (∃ wv,PX w1 gp gm wv [] d e):=⟨wv1,hp1⟩;clear hk1 hp1 hs1 H1;go_wp2_with fail
 go_loopw [7] (fun v wr=>Hid (isSl v=true)∧Hid (KeptB w wr (fun q=>q=gp))∧Hid (∃ wv,PX wr gp gm wv [] d e)) (fun _ wr=>0)
 case atStart=>exact ⟨S1,K1,P1⟩
 case round =>
  clear K1 P1 S1;obtain ⟨HSL,HK,HS⟩:=hrel;obtain ⟨wv9,hp⟩:=HS.out;have TS:=bj gp gm rank wv9 [] d e wr hp.ps;unfold dJ at TS;have e0:sgV sg0=.agg #[.int .i64 0,.int .i64 0,.bool false,.bool false]:=rfl;have e1:tkS rank []=none:=rfl;rw [e1,e0] at TS;have TSH:=aa TS;have HP:=aa hp;clear TS e0 e1 hp HS;go_wp2_with fail;refine TSH.out.mono ?_;rintro r w2 ⟨rfl,hk2,hp2⟩;have K2:=aa (af HK.out hk2);have P2:=aa (cC HP.out hk2 hp2);have BA:=aa (aj w2 (.cells #[.int .i64 0,.int .i64 0,.bool false,.bool false] 176));clear hk2 hp2 TSH;go_wp2_with fail
  go_ret
  exact dL (af K2.out (ae BA.out)) (aO P2.out BA.out) HSL.out
theorem rowErr_ps_product (gp gm:Nat) (d e rank:Int) (he:e≠0) (HE:∀ wv w,PX w gp gm wv [] d e→Calls Tryz.prog 199 #[.pointer (some ⟨gp,0,none⟩)] w fun r w'=>ek w w' gp gm d e r)
  (wv:Value) (w:World) (h:PX w gp gm wv [] d e) :
  Calls Tryz.prog 149 #[.pointer (some ⟨gp,0,none⟩),.int .i64 rank,.func (.func 199) #[.pointer (some ⟨gp,0,none⟩)] #[]] w fun r w'=>ek w w' gp gm d e r:=by
 have H1:=aa (HE wv w h);have HH:=aa he;clear h HE he
 go_enter Tryz.func149,Tryz.ntmps149
 go_wp2_with fail;refine H1.out.mono ?_;rintro r w1 ⟨hk1,v1,wv1,rfl,hs1,hp1⟩;have S1:=aa hs1;have K1:=aa hk1;have P1:Hid (∃ wv,PX w1 gp gm wv [] d e):=⟨wv1,hp1⟩;clear hk1 hp1 hs1 H1;go_wp2_with fail
 go_loopw [7] (fun v wr=>Hid (isSl v=true)∧Hid (KeptB w wr (fun q=>q=gp))∧Hid (∃ wv,PX wr gp gm wv [] d e)) (fun _ wr=>0)
 case atStart=>exact ⟨S1,K1,P1⟩
 case round =>
  clear K1 P1 S1;obtain ⟨HSL,HK,HS⟩:=hrel;obtain ⟨wv9,hp⟩:=HS.out;have TS:=bj gp gm rank wv9 [] d e wr hp.ps;unfold dJ at TS;have e0:sgV sg0=.agg #[.int .i64 0,.int .i64 0,.bool false,.bool false]:=rfl;have e1:tkS rank []=none:=rfl;rw [e1,e0] at TS;have TSH:=aa TS;have HP:=aa hp;clear TS e0 e1 hp HS;go_wp2_with fail;refine TSH.out.mono ?_;rintro r w2 ⟨rfl,hk2,hp2⟩;have K2:=aa (af HK.out hk2);have P2:=aa (cC HP.out hk2 hp2);have BA:=aa (aj w2 (.cells #[.int .i64 0,.int .i64 0,.bool false,.bool false] 176));clear hk2 hp2 TSH;go_wp2_with fail
  go_ret
  exact dL (af K2.out (ae BA.out)) (aO P2.out BA.out) HSL.out
theorem rowErr_ps_unary (gp gm:Nat) (d e rank:Int) (he:e≠0) (HE:∀ wv w,PX w gp gm wv [] d e→Calls Tryz.prog 204 #[.pointer (some ⟨gp,0,none⟩)] w fun r w'=>ek w w' gp gm d e r)
  (wv:Value) (w:World) (h:PX w gp gm wv [] d e) :
  Calls Tryz.prog 149 #[.pointer (some ⟨gp,0,none⟩),.int .i64 rank,.func (.func 204) #[.pointer (some ⟨gp,0,none⟩)] #[]] w fun r w'=>ek w w' gp gm d e r:=by
 have H1:=aa (HE wv w h);have HH:=aa he;clear h HE he
 go_enter Tryz.func149,Tryz.ntmps149
 go_wp2_with fail;refine H1.out.mono ?_;rintro r w1 ⟨hk1,v1,wv1,rfl,hs1,hp1⟩;have S1:=aa hs1;have K1:=aa hk1;have P1:Hid (∃ wv,PX w1 gp gm wv [] d e):=⟨wv1,hp1⟩;clear hk1 hp1 hs1 H1;go_wp2_with fail
 go_loopw [7] (fun v wr=>Hid (isSl v=true)∧Hid (KeptB w wr (fun q=>q=gp))∧Hid (∃ wv,PX wr gp gm wv [] d e)) (fun _ wr=>0)
 case atStart=>exact ⟨S1,K1,P1⟩
 case round =>
  clear K1 P1 S1;obtain ⟨HSL,HK,HS⟩:=hrel;obtain ⟨wv9,hp⟩:=HS.out;have TS:=bj gp gm rank wv9 [] d e wr hp.ps;unfold dJ at TS;have e0:sgV sg0=.agg #[.int .i64 0,.int .i64 0,.bool false,.bool false]:=rfl;have e1:tkS rank []=none:=rfl;rw [e1,e0] at TS;have TSH:=aa TS;have HP:=aa hp;clear TS e0 e1 hp HS;go_wp2_with fail;refine TSH.out.mono ?_;rintro r w2 ⟨rfl,hk2,hp2⟩;have K2:=aa (af HK.out hk2);have P2:=aa (cC HP.out hk2 hp2);have BA:=aa (aj w2 (.cells #[.int .i64 0,.int .i64 0,.bool false,.bool false] 176));clear hk2 hp2 TSH;go_wp2_with fail
  go_ret
  exact dL (af K2.out (ae BA.out)) (aO P2.out BA.out) HSL.out
theorem deeper12_ps_not (gp gm:Nat) (wv:Value) (ws:Ws) (w:World) (h:PX w gp gm wv ws 12 0) :
  Calls Tryz.prog 180 #[.pointer (some ⟨gp,0,none⟩),.func (.func 168) #[.pointer (some ⟨gp,0,none⟩)] #[]] w fun r w'=>PXR w w' gp gm 12 (.error 2) r:=by
 have c2:w.cell? ⟨gp,2,none⟩=some (.int .i64 12):=h.ps.bd.c 2 (by simp);have FL:=aa (fL gp gm 2 (by decide) wv ws 12 0 w h.ps);have HP:=aa h;clear h
 go_enter Tryz.func180,Tryz.ntmps180
 go_wp2_with fail;refine FL.out.mono ?_;rintro r w1 ⟨rfl,hk,hp⟩;have K1:=aa hk;have P1:=aa (cC HP.out hk hp);clear hk hp FL;go_wp2_with fail
 go_ret
 exact cH K1.out ⟨by decide,rfl⟩ P1.out
theorem deeperI_ps_not (T:PR) (gp gm:Nat) (wv:Value) (ws:Ws) (d:Int) (hd0:0≤d) (hd:d < 12) (w:World) (h:PX w gp gm wv ws d 0)
  (HI:∀ w,PX w gp gm wv ws (d+1) 0→Calls Tryz.prog 168 #[.pointer (some ⟨gp,0,none⟩)] w fun r w'=>PXR w w' gp gm (d+1) T r) :
  Calls Tryz.prog 180 #[.pointer (some ⟨gp,0,none⟩),.func (.func 168) #[.pointer (some ⟨gp,0,none⟩)] #[]] w fun r w'=>PXR w w' gp gm d T r:=by
 have c2:w.cell? ⟨gp,2,none⟩=some (.int .i64 d):=h.ps.bd.c 2 (by simp);have f2:=h.ps.bd.fz 2;have d12:(d == 12)=false:=by simp;omega
 have SD:=ff h (d+1);have K0:=aa SD.2;have IN:=aa (HI _ SD.1);clear h SD HI
 go_enter Tryz.func180,Tryz.ntmps180
 go_wp2_with fail;refine IN.out.mono ?_;rintro r w1 ⟨hk,hr⟩;have K1:=aa (af K0.out hk);have hst:∃ v,r=.returned v∧(∃ wv1 ws1 e1,PX w1 gp gm wv1 ws1 (d+1) e1)∧∀ w2,(∀ wv1 ws1 e1,PX w1 gp gm wv1 ws1 (d+1) e1→PX w2 gp gm wv1 ws1 d e1)→KeptB w1 w2 (fun q=>q=gp)→PXR w w2 gp gm d T (.returned v):=by
  cases T with
  | error c =>
   obtain ⟨v,wv1,e9,hc,hp⟩:=hr;exact ⟨v,e9,⟨_,_,_,hp⟩,fun w2 hpx hk2=>cH (af K1.out hk2) hc (hpx _ _ _ hp)⟩
  | ok p =>
   obtain ⟨v,wv1,e9,hn,hp⟩:=hr;exact ⟨v,e9,⟨_,_,_,hp⟩,fun w2 hpx hk2=>⟨af K1.out hk2,v,wv1,rfl,aU hn hk2 (fun q e=>by omega),hpx _ _ _ hp⟩⟩
 obtain ⟨v,rfl,⟨wv1,ws1,e1,hp⟩,hfin⟩:=hst;have c3:w1.cell? ⟨gp,2,none⟩=some (.int .i64 (d+1)):=hp.ps.bd.c 2 (by simp);have f3:=hp.ps.bd.fz 2;have FIN:=aa hfin;have HP1:=aa hp;have es:Hid (d+1 - 1=d):=by show _=_;omega
 have FX:Hid (∀ w2,w2=w1.setCell ⟨gp,2,none⟩ (.int .i64 (d+1 - 1))→PXR w w2 gp gm d T (.returned v)):=fun w2 e2=>by
  subst e2;rw [es.out];exact hfin _ (fun wv1 ws1 e1 hp=>(ff hp _).1) (ff hp _).2
 clear hk hr hp hfin IN FIN;go_wp2_with fail
 go_ret
 first
  | exact FX.out _ rfl
  |(have h9:=FX.out _ rfl;rw [es.out] at h9;exact h9)
theorem deeper_ps_not (inner:Ws→Nat→PR) (gp gm:Nat) (wv:Value) (ws:Ws) (d:Nat) (hd:d≤12) (w:World) (h:PX w gp gm wv ws (d:Int) 0) (hT:deepP inner ws d≠.error 99)
  (HI:d < 12→∀ w,PX w gp gm wv ws ((d+1:Nat):Int) 0→inner ws (d+1)≠.error 99→Calls Tryz.prog 168 #[.pointer (some ⟨gp,0,none⟩)] w fun r w'=>PXR w w' gp gm ((d+1:Nat):Int) (inner ws (d+1)) r) :
  Calls Tryz.prog 180 #[.pointer (some ⟨gp,0,none⟩),.func (.func 168) #[.pointer (some ⟨gp,0,none⟩)] #[]] w fun r w'=>PXR w w' gp gm (d:Int) (deepP inner ws d) r:=by
 by_cases h12:d=12
 ·subst h12;have e:deepP inner ws 12=.error 2:=by unfold deepP;rw [if_pos rfl]
  rw [e];exact deeper12_ps_not gp gm wv ws w h
 ·have e:deepP inner ws d=inner ws (d+1):=by unfold deepP;rw [if_neg h12]
  rw [e] at hT ⊢;exact deeperI_ps_not (inner ws (d+1)) gp gm wv ws (d:Int) (by omega) (by omega) w h (fun w hp=>HI (by omega) w hp hT)
theorem deeper12_ps_unary (gp gm:Nat) (wv:Value) (ws:Ws) (w:World) (h:PX w gp gm wv ws 12 0) :
  Calls Tryz.prog 180 #[.pointer (some ⟨gp,0,none⟩),.func (.func 204) #[.pointer (some ⟨gp,0,none⟩)] #[]] w fun r w'=>PXR w w' gp gm 12 (.error 2) r:=by
 have c2:w.cell? ⟨gp,2,none⟩=some (.int .i64 12):=h.ps.bd.c 2 (by simp);have FL:=aa (fL gp gm 2 (by decide) wv ws 12 0 w h.ps);have HP:=aa h;clear h
 go_enter Tryz.func180,Tryz.ntmps180
 go_wp2_with fail;refine FL.out.mono ?_;rintro r w1 ⟨rfl,hk,hp⟩;have K1:=aa hk;have P1:=aa (cC HP.out hk hp);clear hk hp FL;go_wp2_with fail
 go_ret
 exact cH K1.out ⟨by decide,rfl⟩ P1.out
theorem deeperI_ps_unary (T:PR) (gp gm:Nat) (wv:Value) (ws:Ws) (d:Int) (hd0:0≤d) (hd:d < 12) (w:World) (h:PX w gp gm wv ws d 0)
  (HI:∀ w,PX w gp gm wv ws (d+1) 0→Calls Tryz.prog 204 #[.pointer (some ⟨gp,0,none⟩)] w fun r w'=>PXR w w' gp gm (d+1) T r) :
  Calls Tryz.prog 180 #[.pointer (some ⟨gp,0,none⟩),.func (.func 204) #[.pointer (some ⟨gp,0,none⟩)] #[]] w fun r w'=>PXR w w' gp gm d T r:=by
 have c2:w.cell? ⟨gp,2,none⟩=some (.int .i64 d):=h.ps.bd.c 2 (by simp);have f2:=h.ps.bd.fz 2;have d12:(d == 12)=false:=by simp;omega
 have SD:=ff h (d+1);have K0:=aa SD.2;have IN:=aa (HI _ SD.1);clear h SD HI
 go_enter Tryz.func180,Tryz.ntmps180
 go_wp2_with fail;refine IN.out.mono ?_;rintro r w1 ⟨hk,hr⟩;have K1:=aa (af K0.out hk);have hst:∃ v,r=.returned v∧(∃ wv1 ws1 e1,PX w1 gp gm wv1 ws1 (d+1) e1)∧∀ w2,(∀ wv1 ws1 e1,PX w1 gp gm wv1 ws1 (d+1) e1→PX w2 gp gm wv1 ws1 d e1)→KeptB w1 w2 (fun q=>q=gp)→PXR w w2 gp gm d T (.returned v):=by
  cases T with
  | error c =>
   obtain ⟨v,wv1,e9,hc,hp⟩:=hr;exact ⟨v,e9,⟨_,_,_,hp⟩,fun w2 hpx hk2=>cH (af K1.out hk2) hc (hpx _ _ _ hp)⟩
  | ok p =>
   obtain ⟨v,wv1,e9,hn,hp⟩:=hr;exact ⟨v,e9,⟨_,_,_,hp⟩,fun w2 hpx hk2=>⟨af K1.out hk2,v,wv1,rfl,aU hn hk2 (fun q e=>by omega),hpx _ _ _ hp⟩⟩
 obtain ⟨v,rfl,⟨wv1,ws1,e1,hp⟩,hfin⟩:=hst;have c3:w1.cell? ⟨gp,2,none⟩=some (.int .i64 (d+1)):=hp.ps.bd.c 2 (by simp);have f3:=hp.ps.bd.fz 2;have FIN:=aa hfin;have HP1:=aa hp;have es:Hid (d+1 - 1=d):=by show _=_;omega
 have FX:Hid (∀ w2,w2=w1.setCell ⟨gp,2,none⟩ (.int .i64 (d+1 - 1))→PXR w w2 gp gm d T (.returned v)):=fun w2 e2=>by
  subst e2;rw [es.out];exact hfin _ (fun wv1 ws1 e1 hp=>(ff hp _).1) (ff hp _).2
 clear hk hr hp hfin IN FIN;go_wp2_with fail
 go_ret
 first
  | exact FX.out _ rfl
  |(have h9:=FX.out _ rfl;rw [es.out] at h9;exact h9)
theorem deeper_ps_unary (inner:Ws→Nat→PR) (gp gm:Nat) (wv:Value) (ws:Ws) (d:Nat) (hd:d≤12) (w:World) (h:PX w gp gm wv ws (d:Int) 0) (hT:deepP inner ws d≠.error 99)
  (HI:d < 12→∀ w,PX w gp gm wv ws ((d+1:Nat):Int) 0→inner ws (d+1)≠.error 99→Calls Tryz.prog 204 #[.pointer (some ⟨gp,0,none⟩)] w fun r w'=>PXR w w' gp gm ((d+1:Nat):Int) (inner ws (d+1)) r) :
  Calls Tryz.prog 180 #[.pointer (some ⟨gp,0,none⟩),.func (.func 204) #[.pointer (some ⟨gp,0,none⟩)] #[]] w fun r w'=>PXR w w' gp gm (d:Int) (deepP inner ws d) r:=by
 by_cases h12:d=12
 ·subst h12;have e:deepP inner ws 12=.error 2:=by unfold deepP;rw [if_pos rfl]
  rw [e];exact deeper12_ps_unary gp gm wv ws w h
 ·have e:deepP inner ws d=inner ws (d+1):=by unfold deepP;rw [if_neg h12]
  rw [e] at hT ⊢;exact deeperI_ps_unary (inner ws (d+1)) gp gm wv ws (d:Int) (by omega) (by omega) w h (fun w hp=>HI (by omega) w hp hT)
theorem deeper12_ps_expr (gp gm:Nat) (wv:Value) (ws:Ws) (w:World) (h:PX w gp gm wv ws 12 0) :
  Calls Tryz.prog 180 #[.pointer (some ⟨gp,0,none⟩),.func (.func 110) #[.pointer (some ⟨gp,0,none⟩)] #[]] w fun r w'=>PXR w w' gp gm 12 (.error 2) r:=by
 have c2:w.cell? ⟨gp,2,none⟩=some (.int .i64 12):=h.ps.bd.c 2 (by simp);have FL:=aa (fL gp gm 2 (by decide) wv ws 12 0 w h.ps);have HP:=aa h;clear h
 go_enter Tryz.func180,Tryz.ntmps180
 go_wp2_with fail;refine FL.out.mono ?_;rintro r w1 ⟨rfl,hk,hp⟩;have K1:=aa hk;have P1:=aa (cC HP.out hk hp);clear hk hp FL;go_wp2_with fail
 go_ret
 exact cH K1.out ⟨by decide,rfl⟩ P1.out
theorem deeperI_ps_expr (T:PR) (gp gm:Nat) (wv:Value) (ws:Ws) (d:Int) (hd0:0≤d) (hd:d < 12) (w:World) (h:PX w gp gm wv ws d 0)
  (HI:∀ w,PX w gp gm wv ws (d+1) 0→Calls Tryz.prog 110 #[.pointer (some ⟨gp,0,none⟩)] w fun r w'=>PXR w w' gp gm (d+1) T r) :
  Calls Tryz.prog 180 #[.pointer (some ⟨gp,0,none⟩),.func (.func 110) #[.pointer (some ⟨gp,0,none⟩)] #[]] w fun r w'=>PXR w w' gp gm d T r:=by
 have c2:w.cell? ⟨gp,2,none⟩=some (.int .i64 d):=h.ps.bd.c 2 (by simp);have f2:=h.ps.bd.fz 2;have d12:(d == 12)=false:=by simp;omega
 have SD:=ff h (d+1);have K0:=aa SD.2;have IN:=aa (HI _ SD.1);clear h SD HI
 go_enter Tryz.func180,Tryz.ntmps180
 go_wp2_with fail;refine IN.out.mono ?_;rintro r w1 ⟨hk,hr⟩;have K1:=aa (af K0.out hk);have hst:∃ v,r=.returned v∧(∃ wv1 ws1 e1,PX w1 gp gm wv1 ws1 (d+1) e1)∧∀ w2,(∀ wv1 ws1 e1,PX w1 gp gm wv1 ws1 (d+1) e1→PX w2 gp gm wv1 ws1 d e1)→KeptB w1 w2 (fun q=>q=gp)→PXR w w2 gp gm d T (.returned v):=by
  cases T with
  | error c =>
   obtain ⟨v,wv1,e9,hc,hp⟩:=hr;exact ⟨v,e9,⟨_,_,_,hp⟩,fun w2 hpx hk2=>cH (af K1.out hk2) hc (hpx _ _ _ hp)⟩
  | ok p =>
   obtain ⟨v,wv1,e9,hn,hp⟩:=hr;exact ⟨v,e9,⟨_,_,_,hp⟩,fun w2 hpx hk2=>⟨af K1.out hk2,v,wv1,rfl,aU hn hk2 (fun q e=>by omega),hpx _ _ _ hp⟩⟩
 obtain ⟨v,rfl,⟨wv1,ws1,e1,hp⟩,hfin⟩:=hst;have c3:w1.cell? ⟨gp,2,none⟩=some (.int .i64 (d+1)):=hp.ps.bd.c 2 (by simp);have f3:=hp.ps.bd.fz 2;have FIN:=aa hfin;have HP1:=aa hp;have es:Hid (d+1 - 1=d):=by show _=_;omega
 have FX:Hid (∀ w2,w2=w1.setCell ⟨gp,2,none⟩ (.int .i64 (d+1 - 1))→PXR w w2 gp gm d T (.returned v)):=fun w2 e2=>by
  subst e2;rw [es.out];exact hfin _ (fun wv1 ws1 e1 hp=>(ff hp _).1) (ff hp _).2
 clear hk hr hp hfin IN FIN;go_wp2_with fail
 go_ret
 first
  | exact FX.out _ rfl
  |(have h9:=FX.out _ rfl;rw [es.out] at h9;exact h9)
theorem deeper_ps_expr (inner:Ws→Nat→PR) (gp gm:Nat) (wv:Value) (ws:Ws) (d:Nat) (hd:d≤12) (w:World) (h:PX w gp gm wv ws (d:Int) 0) (hT:deepP inner ws d≠.error 99)
  (HI:d < 12→∀ w,PX w gp gm wv ws ((d+1:Nat):Int) 0→inner ws (d+1)≠.error 99→Calls Tryz.prog 110 #[.pointer (some ⟨gp,0,none⟩)] w fun r w'=>PXR w w' gp gm ((d+1:Nat):Int) (inner ws (d+1)) r) :
  Calls Tryz.prog 180 #[.pointer (some ⟨gp,0,none⟩),.func (.func 110) #[.pointer (some ⟨gp,0,none⟩)] #[]] w fun r w'=>PXR w w' gp gm (d:Int) (deepP inner ws d) r:=by
 by_cases h12:d=12
 ·subst h12;have e:deepP inner ws 12=.error 2:=by unfold deepP;rw [if_pos rfl]
  rw [e];exact deeper12_ps_expr gp gm wv ws w h
 ·have e:deepP inner ws d=inner ws (d+1):=by unfold deepP;rw [if_neg h12]
  rw [e] at hT ⊢;exact deeperI_ps_expr (inner ws (d+1)) gp gm wv ws (d:Int) (by omega) (by omega) w h (fun w hp=>HI (by omega) w hp hT)
theorem fX (gp gm:Nat) (word:ByteArray) (hw0:word≠⟨#[]⟩) (wv:Value) (ws ws1:Ws) (d e:Int) (w:World) (h:PX w gp gm wv ws d e) (ht:tk word ws=some ws1) :
  Calls Tryz.prog 109 #[.pointer (some ⟨gp,0,none⟩),.string word] w fun r w'=>r=.returned (.bool true)∧KeptB w w' (fun q=>q=gp)∧∃ wv',PX w' gp gm wv' ws1 d e:=by
 refine (ku gp gm word hw0 wv ws d e w h.ps).mono fun r w' h9=>?_
 unfold ol at h9;rw [ht] at h9;obtain ⟨h1,h2,wv',h3⟩:=h9;exact ⟨h1,h2,wv',eH h h2 h3 (pI ht)⟩
theorem fW (gp gm:Nat) (word:ByteArray) (hw0:word≠⟨#[]⟩) (wv:Value) (ws:Ws) (d e:Int) (w:World) (h:PX w gp gm wv ws d e) (ht:tk word ws=none) :
  Calls Tryz.prog 109 #[.pointer (some ⟨gp,0,none⟩),.string word] w fun r w'=>r=.returned (.bool false)∧KeptB w w' (fun q=>q=gp)∧PX w' gp gm wv ws d e:=by
 refine (ku gp gm word hw0 wv ws d e w h.ps).mono fun r w' h9=>?_
 unfold ol at h9;rw [ht] at h9;obtain ⟨h1,h2,h3⟩:=h9;exact ⟨h1,h2,eH h h2 h3 (fun x hx=>hx)⟩
theorem iE (gp gm:Nat) (word:ByteArray) (hw0:word≠⟨#[]⟩) (wv:Value) (ws ws1:Ws) (d e:Int) (w:World) (h:PX w gp gm wv ws d e) (ht:tk word ws=some ws1) :
  Calls Tryz.prog 107 #[.pointer (some ⟨gp,0,none⟩),.string word] w fun r w'=>r=.returned (.tuple #[])∧KeptB w w' (fun q=>q=gp)∧∃ wv',PX w' gp gm wv' ws1 d e:=by
 refine (nl gp gm word hw0 wv ws d e w h.ps).mono fun r w' ⟨h1,h2,wv',h3⟩=>?_
 rw [ht] at h3;exact ⟨h1,h2,wv',eH h h2 h3 (pI ht)⟩
theorem fH (gp gm:Nat) (word:ByteArray) (hw0:word≠⟨#[]⟩) (wv:Value) (ws:Ws) (d e:Int) (w:World) (h:PX w gp gm wv ws d e) (ht:tk word ws=none) :
  Calls Tryz.prog 107 #[.pointer (some ⟨gp,0,none⟩),.string word] w fun r w'=>r=.returned (.tuple #[])∧KeptB w w' (fun q=>q=gp)∧∃ wv',PX w' gp gm wv' [] d (oP e 4):=by
 refine (nl gp gm word hw0 wv ws d e w h.ps).mono fun r w' ⟨h1,h2,wv',h3⟩=>?_
 rw [ht] at h3;exact ⟨h1,h2,wv',cC h h2 h3⟩
theorem gT (gp gm:Nat) (op:Int) (u v wv:Value) (ws:Ws) (d e:Int) (he:e≠0) (w:World) (h:PX w gp gm wv ws d e) :
  Calls Tryz.prog 179 #[.pointer (some ⟨gp,0,none⟩),.int .i64 op,u,v] w fun r w'=>r=.returned (.slice none 0 0)∧KeptB w w' (fun q=>q=gp)∧PX w' gp gm wv ws d e :=
 (dR gp gm op u v wv ws d e he w h.ps).mono fun r w' ⟨h1,h2⟩=>⟨h1,ae h2,aO h h2⟩
theorem jA (gp gm:Nat) (op:Int) (ho:ar op=1) (u wv:Value) (l:List Nd) (ws:Ws) (d:Int) (w:World) (h:PX w gp gm wv ws d 0) (hu:NdsR w (gp+1) u l) :
  Calls Tryz.prog 179 #[.pointer (some ⟨gp,0,none⟩),.int .i64 op,u,.slice none 0 0] w fun r w'=>PXR w w' gp gm d (wth ws (jn1 op l)) r :=
 (jw gp gm op ho u wv l ws d w h.ps hu).mono fun r w' h9=>pQ (w0:=w) h (fun x hx=>hx) h9
theorem isNull_false (gp gm:Nat) (u wv:Value) (l:List Nd) (ws ws1:Ws) (d:Int) (w:World) (h:PX w gp gm wv ws d 0) (hu:NdsR w (gp+1) u l)
  (HT:Calls Tryz.prog 109 #[.pointer (some ⟨gp,0,none⟩),.string wNot] w fun r w'=>r=.returned (.bool false)∧KeptB w w' (fun q=>q=gp)∧∃ wv',PX w' gp gm wv' ws1 d 0) :
  Calls Tryz.prog 192 #[.pointer (some ⟨gp,0,none⟩),u] w fun r w'=>PXR w w' gp gm d (fU l false ws1) r:=by
 have HTT:=aa HT;have HU:=aa hu;cases hn:tk wNull ws1 with
 | none =>
  have e:fU l false ws1=.error 4:=by unfold fU;rw [hn]
  rw [e];have HNN:=aa hn;clear h HT hu e hn
  go_enter Tryz.func192,Tryz.ntmps192
  go_wp2_with fail;refine HTT.out.mono ?_;rintro r w1 ⟨rfl,hk1,wv1,hp1⟩;have K1:=aa hk1;have MU:=aa (fH gp gm wNull (by decide) wv1 ws1 d 0 w1 hp1 HNN.out);clear hk1 hp1 HTT;go_wp2_with fail;refine MU.out.mono ?_;rintro r w2 ⟨rfl,hk2,wv2,hp2⟩;have K2:=aa (af K1.out hk2);rw [mP] at hp2;have JE:=aa (gT gp gm 5 u (.slice none 0 0) wv2 [] d 4 (by decide) w2 hp2);clear hk2 hp2 MU K1;go_wp2_with fail;refine JE.out.mono ?_;rintro r w3 ⟨rfl,hk3,hp3⟩;have K3:=aa (af K2.out hk3);have P3:=aa hp3;clear hk3 hp3 JE K2;go_wp2_with fail
  go_ret
  exact cH K3.out ⟨by decide,rfl⟩ P3.out
 | some ws2 =>
  have e:fU l false ws1=wth ws2 (jnD false (jn1 5 l)):=by unfold fU;rw [hn]
  rw [e];have HNN:=aa hn;have hlt:=h.ps.bd.lt;generalize hJ:jn1 5 l=J at *;have HJ:=aa hJ;clear h HT hu e hn hJ
  go_enter Tryz.func192,Tryz.ntmps192
  go_wp2_with fail;refine HTT.out.mono ?_;rintro r w1 ⟨rfl,hk1,wv1,hp1⟩;have K1:=aa hk1;have MU:=aa (iE gp gm wNull (by decide) wv1 ws1 ws2 d 0 w1 hp1 HNN.out);clear hk1 hp1 HTT;go_wp2_with fail;refine MU.out.mono ?_;rintro r w2 ⟨rfl,hk2,wv2,hp2⟩;have K2:=aa (af K1.out hk2);have JE:=jA gp gm 5 (by decide) u wv2 l ws2 d w2 hp2 (aU HU.out (af K1.out hk2) (fun q e=>by omega));rw [HJ.out] at JE;have JE:=aa JE;clear hk2 hp2 MU K1;go_wp2_with fail;refine JE.out.mono ?_;rintro r w3 ⟨hk3,hr3⟩;have K3:=aa (af K2.out hk3);clear hk3 JE K2 HJ;cases J with
  | error c =>
   obtain ⟨v3,wv3,rfl,hc,hp3⟩:=hr3;have HC:=aa hc;have P3:=aa hp3;clear hc hp3;go_wp2_with fail
   go_ret
   exact cH K3.out HC.out P3.out
  | ok z =>
   obtain ⟨v3,wv3,rfl,hn3,hp3⟩:=hr3;have N3:=aa hn3;have P3:=aa hp3;clear hn3 hp3;go_wp2_with fail
   go_ret
   exact mF K3.out N3.out P3.out
theorem isNull_true (gp gm:Nat) (u wv:Value) (l:List Nd) (ws ws1:Ws) (d:Int) (w:World) (h:PX w gp gm wv ws d 0) (hu:NdsR w (gp+1) u l)
  (HT:Calls Tryz.prog 109 #[.pointer (some ⟨gp,0,none⟩),.string wNot] w fun r w'=>r=.returned (.bool true)∧KeptB w w' (fun q=>q=gp)∧∃ wv',PX w' gp gm wv' ws1 d 0) :
  Calls Tryz.prog 192 #[.pointer (some ⟨gp,0,none⟩),u] w fun r w'=>PXR w w' gp gm d (fU l true ws1) r:=by
 have HTT:=aa HT;have HU:=aa hu;cases hn:tk wNull ws1 with
 | none =>
  have e:fU l true ws1=.error 4:=by unfold fU;rw [hn]
  rw [e];have HNN:=aa hn;clear h HT hu e hn
  go_enter Tryz.func192,Tryz.ntmps192
  go_wp2_with fail;refine HTT.out.mono ?_;rintro r w1 ⟨rfl,hk1,wv1,hp1⟩;have K1:=aa hk1;have MU:=aa (fH gp gm wNull (by decide) wv1 ws1 d 0 w1 hp1 HNN.out);clear hk1 hp1 HTT;go_wp2_with fail;refine MU.out.mono ?_;rintro r w2 ⟨rfl,hk2,wv2,hp2⟩;have K2:=aa (af K1.out hk2);rw [mP] at hp2;have JE:=aa (gT gp gm 5 u (.slice none 0 0) wv2 [] d 4 (by decide) w2 hp2);clear hk2 hp2 MU K1;go_wp2_with fail;refine JE.out.mono ?_;rintro r w3 ⟨rfl,hk3,hp3⟩;have K3:=aa (af K2.out hk3);have P3:=aa hp3;clear hk3 hp3 JE K2;have JE:=aa (gT gp gm 4 (.slice none 0 0) (.slice none 0 0) wv2 [] d 4 (by decide) w3 P3.out);go_wp2_with fail;refine JE.out.mono ?_;rintro r w4 ⟨rfl,hk4,hp4⟩;have K4:=aa (af K3.out hk4);have P4:=aa hp4;clear hk4 hp4 JE K3 P3;go_wp2_with fail
  go_ret
  exact cH K4.out ⟨by decide,rfl⟩ P4.out
 | some ws2 =>
  have e:fU l true ws1=wth ws2 (jnD true (jn1 5 l)):=by unfold fU;rw [hn]
  rw [e];have HNN:=aa hn;have hlt:=h.ps.bd.lt;generalize hJ:jn1 5 l=J at *;have HJ:=aa hJ;clear h HT hu e hn hJ
  go_enter Tryz.func192,Tryz.ntmps192
  go_wp2_with fail;refine HTT.out.mono ?_;rintro r w1 ⟨rfl,hk1,wv1,hp1⟩;have K1:=aa hk1;have MU:=aa (iE gp gm wNull (by decide) wv1 ws1 ws2 d 0 w1 hp1 HNN.out);clear hk1 hp1 HTT;go_wp2_with fail;refine MU.out.mono ?_;rintro r w2 ⟨rfl,hk2,wv2,hp2⟩;have K2:=aa (af K1.out hk2);have JE:=jA gp gm 5 (by decide) u wv2 l ws2 d w2 hp2 (aU HU.out (af K1.out hk2) (fun q e=>by omega));rw [HJ.out] at JE;have JE:=aa JE;clear hk2 hp2 MU K1;go_wp2_with fail;refine JE.out.mono ?_;rintro r w3 ⟨hk3,hr3⟩;have K3:=aa (af K2.out hk3);clear hk3 JE K2 HJ;cases J with
  | error c =>
   obtain ⟨v3,wv3,rfl,hc,hp3⟩:=hr3;have HC:=aa hc;have P3:=aa hp3;clear hc hp3;have JE:=aa (gT gp gm 4 v3 (.slice none 0 0) wv3 [] d c HC.out.1 w3 P3.out);go_wp2_with fail;refine JE.out.mono ?_;rintro r w4 ⟨rfl,hk4,hp4⟩;have K4:=aa (af K3.out hk4);have P4:=aa hp4;clear hk4 hp4 JE K3 P3;go_wp2_with fail
   go_ret
   exact cH K4.out ⟨HC.out.1,rfl⟩ P4.out
  | ok z =>
   obtain ⟨v3,wv3,rfl,hn3,hp3⟩:=hr3;have JE:=aa (jA gp gm 4 (by decide) v3 wv3 z ws2 d w3 hp3 hn3);clear hn3 hp3;go_wp2_with fail;refine JE.out.mono ?_;intro r w4 h4;have F4:=aa (eY K3.out h4);obtain ⟨v4,rfl⟩:∃ v,r=.returned v:=by
    have h5:=h4.2;generalize wth ws2 (jn1 4 z)=T at h5;cases T with
    | error c=>obtain ⟨v,wv,e,-⟩:=h5;exact ⟨v,e⟩
    | ok p=>obtain ⟨v,wv,e,-⟩:=h5;exact ⟨v,e⟩
   clear h4 JE K3;go_wp2_with fail
   go_ret
   exact F4.out
theorem isNull_any (gp gm:Nat) (u wv:Value) (l:List Nd) (ws:Ws) (d:Int) (w:World) (h:PX w gp gm wv ws d 0) (hu:NdsR w (gp+1) u l) :
  Calls Tryz.prog 192 #[.pointer (some ⟨gp,0,none⟩),u] w fun r w'=>PXR w w' gp gm d (isP l ws) r:=by
 unfold isP;cases ht:tk wNot ws with
 | none=>exact isNull_false gp gm u wv l ws ws d w h hu ((fW gp gm wNot (by decide) wv ws d 0 w h ht).mono fun r w' ⟨h1,h2,h3⟩=>⟨h1,h2,wv,h3⟩)
 | some ws1=>exact isNull_true gp gm u wv l ws ws1 d w h hu (fX gp gm wNot (by decide) wv ws ws1 d 0 w h ht)
theorem eG {w w':World} {gp gm:Nat} {d:Int} {r:PR} {e:Ending} (h:PXR w w' gp gm d r e):∃ v,e=.returned v:=by
 have h5:=h.2;cases r with
 | error c=>obtain ⟨v,wv,e,-⟩:=h5;exact ⟨v,e⟩
 | ok p=>obtain ⟨v,wv,e,-⟩:=h5;exact ⟨v,e⟩
theorem oC (gp gm:Nat) (rank:Int) (wv:Value) (ws:Ws) (d e:Int) (w:World) (h:PX w gp gm wv ws d e) (ht:tkS rank ws=none) :
  Calls Tryz.prog 166 #[.pointer (some ⟨gp,0,none⟩),.int .i64 rank] w fun r w'=>r=.returned (.tuple #[.agg #[.int .i64 0,.int .i64 0,.bool false,.bool false],.bool false])∧KeptB w w' (fun q=>q=gp)∧PX w' gp gm wv ws d e:=by
 refine (bj gp gm rank wv ws d e w h.ps).mono fun r w' h9=>?_
 unfold dJ at h9;rw [ht] at h9;exact ⟨h9.1,h9.2.1,eH h h9.2.1 h9.2.2 (fun x hx=>hx)⟩
theorem px_signY (gp gm:Nat) (rank:Int) (wv:Value) (ws ws1:Ws) (s:Sg) (d e:Int) (w:World) (h:PX w gp gm wv ws d e) (ht:tkS rank ws=some (s,ws1)) :
  Calls Tryz.prog 166 #[.pointer (some ⟨gp,0,none⟩),.int .i64 rank] w fun r w'=>r=.returned (.tuple #[.agg #[.int .i64 s.rank,.int .i64 s.op,.bool s.turned,.bool s.denied],.bool true])∧KeptB w w' (fun q=>q=gp)∧∃ wv',PX w' gp gm wv' ws1 d e:=by
 refine (bj gp gm rank wv ws d e w h.ps).mono fun r w' h9=>?_
 unfold dJ at h9;rw [ht] at h9;obtain ⟨h1,h2,wv',h3⟩:=h9;exact ⟨h1,h2,wv',eH h h2 h3 (jo ht)⟩
theorem qg {ws:Ws} (h:∀ x∈ws,WQ x):WQ (hdW ws):=by
 cases ws with
 | nil=>exact ⟨.inr rfl,by decide⟩
 | cons x r=>exact h x (List.mem_cons_self ..)
theorem lL {n:Nd} (h0:ar n.op=0) (h1:okN n=0):WfN [n]:=by
 refine ⟨by simp,by simp,[0],?_,rfl⟩;have hb:lh n []=some 0:=by unfold lh;rw [if_neg (by omega),if_neg (by omega)];rfl
 simpa using gO good_nil h1 hb
theorem leaf_wf {s:ByteArray} {n:Nd} (h:fT s=some n):WfN [n]:=by
 unfold fT at h;cases hf:qD s with
 | some i =>
  rw [hf] at h
  simp only at h
  cases h;have hi:i=0∨i=1∨i=2∨i=3:=by
   unfold qD at hf
   by_cases q0:s=wT
   ·rw [if_pos q0] at hf;cases hf;exact .inl rfl
   ·rw [if_neg q0] at hf
    by_cases q1:s=wK
    ·rw [if_pos q1] at hf;cases hf;exact .inr (.inl rfl)
    ·rw [if_neg q1] at hf
     by_cases q2:s=wA
     ·rw [if_pos q2] at hf;cases hf;exact .inr (.inr (.inl rfl))
     ·rw [if_neg q2] at hf
      by_cases q3:s=wB
      ·rw [if_pos q3] at hf;cases hf;exact .inr (.inr (.inr rfl))
      ·rw [if_neg q3] at hf;cases hf
  rcases hi with rfl | rfl | rfl | rfl <;> exact lL (by decide) (by decide)
 | none =>
  rw [hf] at h
  simp only at h
  by_cases q0:s=wNull
  ·rw [if_pos q0] at h;cases h;exact lL (by decide) (by decide)
  ·rw [if_neg q0] at h
   by_cases q1:s=wFalse
   ·rw [if_pos q1] at h;cases h;exact lL (by decide) (by decide)
   ·rw [if_neg q1] at h
    by_cases q2:s=wTrue
    ·rw [if_pos q2] at h;cases h;exact lL (by decide) (by decide)
    ·rw [if_neg q2] at h;cases hq:nK 1000000000 s with
     | none=>rw [hq] at h;cases h
     | some m =>
      rw [hq] at h;cases h;obtain ⟨-,hm⟩:=mh (by decide) hq;refine lL (show ar 1=0 by decide) ?_;unfold okN;rw [if_neg (by unfold lG;simp [ar]),if_neg (by simp),if_pos (by unfold qI;simp;omega)]
theorem unary_x (f gp gm:Nat) (wv:Value) (ws:Ws) (d:Nat) (hd:d≤12) (w:World) (h:PX w gp gm wv ws (d:Int) 0) (hT:lev (f+1) 6 ws d≠.error 99)
  (H1:∀ wv ws w (d:Nat),d≤12→PX w gp gm wv ws (d:Int) 0→lev f 6 ws d≠.error 99→Calls Tryz.prog 204 #[.pointer (some ⟨gp,0,none⟩)] w fun r w'=>PXR w w' gp gm (d:Int) (lev f 6 ws d) r)
  (H2:∀ wv ws w (d:Nat),d≤12→PX w gp gm wv ws (d:Int) 0→lev f 7 ws d≠.error 99→Calls Tryz.prog 208 #[.pointer (some ⟨gp,0,none⟩)] w fun r w'=>PXR w w' gp gm (d:Int) (lev f 7 ws d) r) :
  Calls Tryz.prog 204 #[.pointer (some ⟨gp,0,none⟩)] w fun r w'=>PXR w w' gp gm (d:Int) (lev (f+1) 6 ws d) r:=by
 cases ht:tk wMinus ws with
 | none =>
  have e:lev (f+1) 6 ws d=lev f 7 ws d:=by
   show (match tk wMinus ws with | some ws1=>aheadP 3 (deepP (fun ws d=>lev f 6 ws d) ws1 d) | none=>lev f 7 ws d)=_
   rw [ht]
  rw [e] at hT ⊢;have TK:=aa (fW gp gm wMinus (by decide) wv ws (d:Int) 0 w h ht);have HH:=aa (fun w hp=>H2 wv ws w d hd hp hT);generalize lev f 7 ws d=T at *;clear h hT e ht H1 H2
  go_enter Tryz.func204,Tryz.ntmps204
  go_wp2_with fail;refine TK.out.mono ?_;rintro r w1 ⟨rfl,hk1,hp1⟩;have K1:=aa hk1;have AT:=aa (HH.out w1 hp1);clear hk1 hp1 TK HH;go_wp2_with fail;refine AT.out.mono ?_;intro r w2 h2;have F2:=aa (eY K1.out h2);obtain ⟨v,rfl⟩:=eG h2;clear h2 AT K1;go_wp2_with fail
  go_ret
  exact F2.out
 | some ws1 =>
  have e:lev (f+1) 6 ws d=aheadP 3 (deepP (fun ws d=>lev f 6 ws d) ws1 d):=by
   show (match tk wMinus ws with | some ws1=>aheadP 3 (deepP (fun ws d=>lev f 6 ws d) ws1 d) | none=>lev f 7 ws d)=_
   rw [ht]
  rw [e] at hT ⊢;have hT0:deepP (fun ws d=>lev f 6 ws d) ws1 d≠.error 99:=fun e9=>hT (by rw [e9];rfl)
  have TK:=aa (fX gp gm wMinus (by decide) wv ws ws1 (d:Int) 0 w h ht);have DE:=aa (fun wv w hp=>deeper_ps_unary (fun ws d=>lev f 6 ws d) gp gm wv ws1 d hd w hp hT0 (fun h12 w hp hne=>H1 wv ws1 w (d+1) (by omega) hp hne));generalize deepP (fun ws d=>lev f 6 ws d) ws1 d=T at *;have hap:∀ c,T=.error c→aheadP 3 T=.error c:=fun c e9=>by rw [e9];rfl
  have haq:∀ x ws2,T=.ok (x,ws2)→aheadP 3 T=wth ws2 (jn1 3 x):=fun x ws2 e9=>by rw [e9];rfl
  have HAP:=aa hap;have HAQ:=aa haq;generalize aheadP 3 T=TT at *;clear h hT e ht H1 H2 hT0 hap haq
  go_enter Tryz.func204,Tryz.ntmps204
  go_wp2_with fail;refine TK.out.mono ?_;rintro r w1 ⟨rfl,hk1,wv1,hp1⟩;have K1:=aa hk1;have DD:=aa (DE.out wv1 w1 hp1);clear hk1 hp1 TK DE;go_wp2_with fail;refine DD.out.mono ?_;rintro r w2 ⟨hk2,hr2⟩;have K2:=aa (af K1.out hk2);clear hk2 DD K1;cases T with
  | error c =>
   obtain ⟨v2,wv2,rfl,hc,hp2⟩:=hr2;have HC:=aa hc;have JE:=aa (gT gp gm 3 v2 (.slice none 0 0) wv2 [] (d:Int) c hc.1 w2 hp2);clear hc hp2;go_wp2_with fail;refine JE.out.mono ?_;rintro r w3 ⟨rfl,hk3,hp3⟩;have K3:=aa (af K2.out hk3);have P3:=aa hp3;clear hk3 hp3 JE K2;go_wp2_with fail
   go_ret
   rw [HAP.out c rfl];exact cH K3.out ⟨HC.out.1,rfl⟩ P3.out
  | ok p =>
   obtain ⟨x,ws2⟩:=p;obtain ⟨v2,wv2,rfl,hn2,hp2⟩:=hr2;have JE:=aa (jA gp gm 3 (by decide) v2 wv2 x ws2 (d:Int) w2 hp2 hn2);clear hn2 hp2;go_wp2_with fail;refine JE.out.mono ?_;intro r w3 h3;have F3:=aa (eY K2.out h3);obtain ⟨v3,rfl⟩:=eG h3;clear h3 JE K2;go_wp2_with fail
   go_ret
   rw [HAQ.out x ws2 rfl];exact F3.out
theorem unary_e (gp gm:Nat) (wv:Value) (d e:Int) (w:World) (h:PX w gp gm wv [] d e)
  (H2:∀ wv w,PX w gp gm wv [] d e→Calls Tryz.prog 208 #[.pointer (some ⟨gp,0,none⟩)] w fun r w'=>ek w w' gp gm d e r) :
  Calls Tryz.prog 204 #[.pointer (some ⟨gp,0,none⟩)] w fun r w'=>ek w w' gp gm d e r:=by
 have TK:=aa (fW gp gm wMinus (by decide) wv [] d e w h rfl);have HH:=aa H2;clear h H2
 go_enter Tryz.func204,Tryz.ntmps204
 go_wp2_with fail;refine TK.out.mono ?_;rintro r w1 ⟨rfl,hk1,hp1⟩;have K1:=aa hk1;have AT:=aa (HH.out wv w1 hp1);clear hk1 hp1 TK HH;go_wp2_with fail;refine AT.out.mono ?_;rintro r w2 ⟨hk2,v2,wv2,rfl,hs2,hp2⟩;have S2:=aa hs2;have K2:=aa (af K1.out hk2);have P2:=aa hp2;clear hk2 hp2 hs2 AT K1;go_wp2_with fail
 go_ret
 exact dL K2.out P2.out S2.out
theorem not_x (f gp gm:Nat) (wv:Value) (ws:Ws) (d:Nat) (hd:d≤12) (w:World) (h:PX w gp gm wv ws (d:Int) 0) (hT:lev (f+1) 2 ws d≠.error 99)
  (H1:∀ wv ws w (d:Nat),d≤12→PX w gp gm wv ws (d:Int) 0→lev f 2 ws d≠.error 99→Calls Tryz.prog 168 #[.pointer (some ⟨gp,0,none⟩)] w fun r w'=>PXR w w' gp gm (d:Int) (lev f 2 ws d) r)
  (H2:∀ wv ws w (d:Nat),d≤12→PX w gp gm wv ws (d:Int) 0→lev f 3 ws d≠.error 99→Calls Tryz.prog 181 #[.pointer (some ⟨gp,0,none⟩)] w fun r w'=>PXR w w' gp gm (d:Int) (lev f 3 ws d) r) :
  Calls Tryz.prog 168 #[.pointer (some ⟨gp,0,none⟩)] w fun r w'=>PXR w w' gp gm (d:Int) (lev (f+1) 2 ws d) r:=by
 cases ht:tk wNot ws with
 | none =>
  have e:lev (f+1) 2 ws d=lev f 3 ws d:=by
   show (match tk wNot ws with | some ws1=>aheadP 4 (deepP (fun ws d=>lev f 2 ws d) ws1 d) | none=>lev f 3 ws d)=_
   rw [ht]
  rw [e] at hT ⊢;have TK:=aa (fW gp gm wNot (by decide) wv ws (d:Int) 0 w h ht);have HH:=aa (fun w hp=>H2 wv ws w d hd hp hT);generalize lev f 3 ws d=T at *;clear h hT e ht H1 H2
  go_enter Tryz.func168,Tryz.ntmps168
  go_wp2_with fail;refine TK.out.mono ?_;rintro r w1 ⟨rfl,hk1,hp1⟩;have K1:=aa hk1;have AT:=aa (HH.out w1 hp1);clear hk1 hp1 TK HH;go_wp2_with fail;refine AT.out.mono ?_;intro r w2 h2;have F2:=aa (eY K1.out h2);obtain ⟨v,rfl⟩:=eG h2;clear h2 AT K1;go_wp2_with fail
  go_ret
  exact F2.out
 | some ws1 =>
  have e:lev (f+1) 2 ws d=aheadP 4 (deepP (fun ws d=>lev f 2 ws d) ws1 d):=by
   show (match tk wNot ws with | some ws1=>aheadP 4 (deepP (fun ws d=>lev f 2 ws d) ws1 d) | none=>lev f 3 ws d)=_
   rw [ht]
  rw [e] at hT ⊢;have hT0:deepP (fun ws d=>lev f 2 ws d) ws1 d≠.error 99:=fun e9=>hT (by rw [e9];rfl)
  have TK:=aa (fX gp gm wNot (by decide) wv ws ws1 (d:Int) 0 w h ht);have DE:=aa (fun wv w hp=>deeper_ps_not (fun ws d=>lev f 2 ws d) gp gm wv ws1 d hd w hp hT0 (fun h12 w hp hne=>H1 wv ws1 w (d+1) (by omega) hp hne));generalize deepP (fun ws d=>lev f 2 ws d) ws1 d=T at *;have hap:∀ c,T=.error c→aheadP 4 T=.error c:=fun c e9=>by rw [e9];rfl
  have haq:∀ x ws2,T=.ok (x,ws2)→aheadP 4 T=wth ws2 (jn1 4 x):=fun x ws2 e9=>by rw [e9];rfl
  have HAP:=aa hap;have HAQ:=aa haq;generalize aheadP 4 T=TT at *;clear h hT e ht H1 H2 hT0 hap haq
  go_enter Tryz.func168,Tryz.ntmps168
  go_wp2_with fail;refine TK.out.mono ?_;rintro r w1 ⟨rfl,hk1,wv1,hp1⟩;have K1:=aa hk1;have DD:=aa (DE.out wv1 w1 hp1);clear hk1 hp1 TK DE;go_wp2_with fail;refine DD.out.mono ?_;rintro r w2 ⟨hk2,hr2⟩;have K2:=aa (af K1.out hk2);clear hk2 DD K1;cases T with
  | error c =>
   obtain ⟨v2,wv2,rfl,hc,hp2⟩:=hr2;have HC:=aa hc;have JE:=aa (gT gp gm 4 v2 (.slice none 0 0) wv2 [] (d:Int) c hc.1 w2 hp2);clear hc hp2;go_wp2_with fail;refine JE.out.mono ?_;rintro r w3 ⟨rfl,hk3,hp3⟩;have K3:=aa (af K2.out hk3);have P3:=aa hp3;clear hk3 hp3 JE K2;go_wp2_with fail
   go_ret
   rw [HAP.out c rfl];exact cH K3.out ⟨HC.out.1,rfl⟩ P3.out
  | ok p =>
   obtain ⟨x,ws2⟩:=p;obtain ⟨v2,wv2,rfl,hn2,hp2⟩:=hr2;have JE:=aa (jA gp gm 4 (by decide) v2 wv2 x ws2 (d:Int) w2 hp2 hn2);clear hn2 hp2;go_wp2_with fail;refine JE.out.mono ?_;intro r w3 h3;have F3:=aa (eY K2.out h3);obtain ⟨v3,rfl⟩:=eG h3;clear h3 JE K2;go_wp2_with fail
   go_ret
   rw [HAQ.out x ws2 rfl];exact F3.out
theorem not_e (gp gm:Nat) (wv:Value) (d e:Int) (w:World) (h:PX w gp gm wv [] d e)
  (H2:∀ wv w,PX w gp gm wv [] d e→Calls Tryz.prog 181 #[.pointer (some ⟨gp,0,none⟩)] w fun r w'=>ek w w' gp gm d e r) :
  Calls Tryz.prog 168 #[.pointer (some ⟨gp,0,none⟩)] w fun r w'=>ek w w' gp gm d e r:=by
 have TK:=aa (fW gp gm wNot (by decide) wv [] d e w h rfl);have HH:=aa H2;clear h H2
 go_enter Tryz.func168,Tryz.ntmps168
 go_wp2_with fail;refine TK.out.mono ?_;rintro r w1 ⟨rfl,hk1,hp1⟩;have K1:=aa hk1;have AT:=aa (HH.out wv w1 hp1);clear hk1 hp1 TK HH;go_wp2_with fail;refine AT.out.mono ?_;rintro r w2 ⟨hk2,v2,wv2,rfl,hs2,hp2⟩;have S2:=aa hs2;have K2:=aa (af K1.out hk2);have P2:=aa hp2;clear hk2 hp2 hs2 AT K1;go_wp2_with fail
 go_ret
 exact dL K2.out P2.out S2.out
theorem expr_x (f gp gm:Nat) (wv:Value) (ws:Ws) (d:Nat) (hd:d≤12) (w:World) (h:PX w gp gm wv ws (d:Int) 0) (hT:lev (f+1) 0 ws d≠.error 99)
  (H2:∀ wv ws w (d:Nat),d≤12→PX w gp gm wv ws (d:Int) 0→lev f 1 ws d≠.error 99→Calls Tryz.prog 150 #[.pointer (some ⟨gp,0,none⟩)] w fun r w'=>PXR w w' gp gm (d:Int) (lev f 1 ws d) r)
  (H3:∀ wv e w (d:Int),e≠0→PX w gp gm wv [] d e→Calls Tryz.prog 150 #[.pointer (some ⟨gp,0,none⟩)] w fun r w'=>ek w w' gp gm d e r)
  (H4:∀ ws y ws2,lev f 1 ws d=.ok (y,ws2)→ws2.length≤ws.length) :
  Calls Tryz.prog 110 #[.pointer (some ⟨gp,0,none⟩)] w fun r w'=>PXR w w' gp gm (d:Int) (lev (f+1) 0 ws d) r:=by
 have e:lev (f+1) 0 ws d=rowP (fun ws=>lev f 1 ws d) 0 f ws:=rfl;rw [e] at hT ⊢;have RW:=aa (row_ps_and (fun ws=>lev f 1 ws d) gp gm (d:Int) 0 (fun wv ws w hp hne=>H2 wv ws w d hd hp hne) (fun wv e w he hp=>H3 wv e w (d:Int) he hp) H4 f wv ws w h hT);generalize rowP (fun ws=>lev f 1 ws d) 0 f ws=T at *;clear h hT e H2 H3 H4
 go_enter Tryz.func110,Tryz.ntmps110
 go_wp2_with fail;refine RW.out.mono ?_;intro r w1 h1;have F1:=aa h1;obtain ⟨v,rfl⟩:=eG h1;clear h1 RW;go_wp2_with fail
 go_ret
 exact F1.out
theorem expr_e (gp gm:Nat) (wv:Value) (d e:Int) (he:e≠0) (w:World) (h:PX w gp gm wv [] d e)
  (H2:∀ wv w,PX w gp gm wv [] d e→Calls Tryz.prog 150 #[.pointer (some ⟨gp,0,none⟩)] w fun r w'=>ek w w' gp gm d e r) :
  Calls Tryz.prog 110 #[.pointer (some ⟨gp,0,none⟩)] w fun r w'=>ek w w' gp gm d e r:=by
 have RW:=aa (rowErr_ps_and gp gm d e 0 he H2 wv w h);clear h H2 he
 go_enter Tryz.func110,Tryz.ntmps110
 go_wp2_with fail;refine RW.out.mono ?_;rintro r w1 ⟨hk1,v1,wv1,rfl,hs1,hp1⟩;have S1:=aa hs1;have K1:=aa hk1;have P1:=aa hp1;clear hk1 hp1 hs1 RW;go_wp2_with fail
 go_ret
 exact dL K1.out P1.out S1.out
theorem and_x (f gp gm:Nat) (wv:Value) (ws:Ws) (d:Nat) (hd:d≤12) (w:World) (h:PX w gp gm wv ws (d:Int) 0) (hT:lev (f+1) 1 ws d≠.error 99)
  (H2:∀ wv ws w (d:Nat),d≤12→PX w gp gm wv ws (d:Int) 0→lev f 2 ws d≠.error 99→Calls Tryz.prog 168 #[.pointer (some ⟨gp,0,none⟩)] w fun r w'=>PXR w w' gp gm (d:Int) (lev f 2 ws d) r)
  (H3:∀ wv e w (d:Int),e≠0→PX w gp gm wv [] d e→Calls Tryz.prog 168 #[.pointer (some ⟨gp,0,none⟩)] w fun r w'=>ek w w' gp gm d e r)
  (H4:∀ ws y ws2,lev f 2 ws d=.ok (y,ws2)→ws2.length≤ws.length) :
  Calls Tryz.prog 150 #[.pointer (some ⟨gp,0,none⟩)] w fun r w'=>PXR w w' gp gm (d:Int) (lev (f+1) 1 ws d) r:=by
 have e:lev (f+1) 1 ws d=rowP (fun ws=>lev f 2 ws d) 1 f ws:=rfl;rw [e] at hT ⊢;have RW:=aa (row_ps_not (fun ws=>lev f 2 ws d) gp gm (d:Int) 1 (fun wv ws w hp hne=>H2 wv ws w d hd hp hne) (fun wv e w he hp=>H3 wv e w (d:Int) he hp) H4 f wv ws w h hT);generalize rowP (fun ws=>lev f 2 ws d) 1 f ws=T at *;clear h hT e H2 H3 H4
 go_enter Tryz.func150,Tryz.ntmps150
 go_wp2_with fail;refine RW.out.mono ?_;intro r w1 h1;have F1:=aa h1;obtain ⟨v,rfl⟩:=eG h1;clear h1 RW;go_wp2_with fail
 go_ret
 exact F1.out
theorem and_e (gp gm:Nat) (wv:Value) (d e:Int) (he:e≠0) (w:World) (h:PX w gp gm wv [] d e)
  (H2:∀ wv w,PX w gp gm wv [] d e→Calls Tryz.prog 168 #[.pointer (some ⟨gp,0,none⟩)] w fun r w'=>ek w w' gp gm d e r) :
  Calls Tryz.prog 150 #[.pointer (some ⟨gp,0,none⟩)] w fun r w'=>ek w w' gp gm d e r:=by
 have RW:=aa (rowErr_ps_not gp gm d e 1 he H2 wv w h);clear h H2 he
 go_enter Tryz.func150,Tryz.ntmps150
 go_wp2_with fail;refine RW.out.mono ?_;rintro r w1 ⟨hk1,v1,wv1,rfl,hs1,hp1⟩;have S1:=aa hs1;have K1:=aa hk1;have P1:=aa hp1;clear hk1 hp1 hs1 RW;go_wp2_with fail
 go_ret
 exact dL K1.out P1.out S1.out
theorem sum_x (f gp gm:Nat) (wv:Value) (ws:Ws) (d:Nat) (hd:d≤12) (w:World) (h:PX w gp gm wv ws (d:Int) 0) (hT:lev (f+1) 4 ws d≠.error 99)
  (H2:∀ wv ws w (d:Nat),d≤12→PX w gp gm wv ws (d:Int) 0→lev f 5 ws d≠.error 99→Calls Tryz.prog 199 #[.pointer (some ⟨gp,0,none⟩)] w fun r w'=>PXR w w' gp gm (d:Int) (lev f 5 ws d) r)
  (H3:∀ wv e w (d:Int),e≠0→PX w gp gm wv [] d e→Calls Tryz.prog 199 #[.pointer (some ⟨gp,0,none⟩)] w fun r w'=>ek w w' gp gm d e r)
  (H4:∀ ws y ws2,lev f 5 ws d=.ok (y,ws2)→ws2.length≤ws.length) :
  Calls Tryz.prog 191 #[.pointer (some ⟨gp,0,none⟩)] w fun r w'=>PXR w w' gp gm (d:Int) (lev (f+1) 4 ws d) r:=by
 have e:lev (f+1) 4 ws d=rowP (fun ws=>lev f 5 ws d) 3 f ws:=rfl;rw [e] at hT ⊢;have RW:=aa (row_ps_product (fun ws=>lev f 5 ws d) gp gm (d:Int) 3 (fun wv ws w hp hne=>H2 wv ws w d hd hp hne) (fun wv e w he hp=>H3 wv e w (d:Int) he hp) H4 f wv ws w h hT);generalize rowP (fun ws=>lev f 5 ws d) 3 f ws=T at *;clear h hT e H2 H3 H4
 go_enter Tryz.func191,Tryz.ntmps191
 go_wp2_with fail;refine RW.out.mono ?_;intro r w1 h1;have F1:=aa h1;obtain ⟨v,rfl⟩:=eG h1;clear h1 RW;go_wp2_with fail
 go_ret
 exact F1.out
theorem sum_e (gp gm:Nat) (wv:Value) (d e:Int) (he:e≠0) (w:World) (h:PX w gp gm wv [] d e)
  (H2:∀ wv w,PX w gp gm wv [] d e→Calls Tryz.prog 199 #[.pointer (some ⟨gp,0,none⟩)] w fun r w'=>ek w w' gp gm d e r) :
  Calls Tryz.prog 191 #[.pointer (some ⟨gp,0,none⟩)] w fun r w'=>ek w w' gp gm d e r:=by
 have RW:=aa (rowErr_ps_product gp gm d e 3 he H2 wv w h);clear h H2 he
 go_enter Tryz.func191,Tryz.ntmps191
 go_wp2_with fail;refine RW.out.mono ?_;rintro r w1 ⟨hk1,v1,wv1,rfl,hs1,hp1⟩;have S1:=aa hs1;have K1:=aa hk1;have P1:=aa hp1;clear hk1 hp1 hs1 RW;go_wp2_with fail
 go_ret
 exact dL K1.out P1.out S1.out
theorem product_x (f gp gm:Nat) (wv:Value) (ws:Ws) (d:Nat) (hd:d≤12) (w:World) (h:PX w gp gm wv ws (d:Int) 0) (hT:lev (f+1) 5 ws d≠.error 99)
  (H2:∀ wv ws w (d:Nat),d≤12→PX w gp gm wv ws (d:Int) 0→lev f 6 ws d≠.error 99→Calls Tryz.prog 204 #[.pointer (some ⟨gp,0,none⟩)] w fun r w'=>PXR w w' gp gm (d:Int) (lev f 6 ws d) r)
  (H3:∀ wv e w (d:Int),e≠0→PX w gp gm wv [] d e→Calls Tryz.prog 204 #[.pointer (some ⟨gp,0,none⟩)] w fun r w'=>ek w w' gp gm d e r)
  (H4:∀ ws y ws2,lev f 6 ws d=.ok (y,ws2)→ws2.length≤ws.length) :
  Calls Tryz.prog 199 #[.pointer (some ⟨gp,0,none⟩)] w fun r w'=>PXR w w' gp gm (d:Int) (lev (f+1) 5 ws d) r:=by
 have e:lev (f+1) 5 ws d=rowP (fun ws=>lev f 6 ws d) 4 f ws:=rfl;rw [e] at hT ⊢;have RW:=aa (row_ps_unary (fun ws=>lev f 6 ws d) gp gm (d:Int) 4 (fun wv ws w hp hne=>H2 wv ws w d hd hp hne) (fun wv e w he hp=>H3 wv e w (d:Int) he hp) H4 f wv ws w h hT);generalize rowP (fun ws=>lev f 6 ws d) 4 f ws=T at *;clear h hT e H2 H3 H4
 go_enter Tryz.func199,Tryz.ntmps199
 go_wp2_with fail;refine RW.out.mono ?_;intro r w1 h1;have F1:=aa h1;obtain ⟨v,rfl⟩:=eG h1;clear h1 RW;go_wp2_with fail
 go_ret
 exact F1.out
theorem product_e (gp gm:Nat) (wv:Value) (d e:Int) (he:e≠0) (w:World) (h:PX w gp gm wv [] d e)
  (H2:∀ wv w,PX w gp gm wv [] d e→Calls Tryz.prog 204 #[.pointer (some ⟨gp,0,none⟩)] w fun r w'=>ek w w' gp gm d e r) :
  Calls Tryz.prog 199 #[.pointer (some ⟨gp,0,none⟩)] w fun r w'=>ek w w' gp gm d e r:=by
 have RW:=aa (rowErr_ps_unary gp gm d e 4 he H2 wv w h);clear h H2 he
 go_enter Tryz.func199,Tryz.ntmps199
 go_wp2_with fail;refine RW.out.mono ?_;rintro r w1 ⟨hk1,v1,wv1,rfl,hs1,hp1⟩;have S1:=aa hs1;have K1:=aa hk1;have P1:=aa hp1;clear hk1 hp1 hs1 RW;go_wp2_with fail
 go_ret
 exact dL K1.out P1.out S1.out
end Go.Proofs.YtcgjflamgnjhcaaGreatDoor

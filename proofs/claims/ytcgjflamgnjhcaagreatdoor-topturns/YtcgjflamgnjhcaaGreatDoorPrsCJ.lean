/- Own texts in one. Conditions: as named in each. -/
import Derived.Test.YtcgjflamgnjhcaaGreatDoorPrs9J
import Derived.Great.BuildSlice
import Derived.Great.FillDense
set_option linter.unusedVariables false
set_option linter.unusedSimpArgs false
set_option maxRecDepth 100000
set_option maxHeartbeats 8000000
namespace Go.Proofs.YtcgjflamgnjhcaaGreatDoor
open Go.ChangeShapes Go.WideShapes Go.ChangeAt Go.RowKit Go.Great
theorem kI (gp gm:Nat) (wv:Value) (ws:Ws) (d e:Int) (w:World) (h:PX w gp gm wv ws d e) :
  Calls Tryz.prog 147 #[.pointer (some ⟨gp,0,none⟩)] w fun r w'=>r=.returned (.string (hdW ws))∧KeptB w w' (fun q=>q=gp)∧PX w' gp gm wv ws d e :=
 (iF gp gm wv ws d e w h.ps).mono fun r w' ⟨h1,h2⟩=>⟨h1,ae h2,aO h h2⟩
theorem o8 (gp gm:Nat) (wv:Value) (ws:Ws) (d e:Int) (w:World) (h:PX w gp gm wv ws d e) :
  Calls Tryz.prog 210 #[.string (hdW ws)] w fun r w'=>r=.returned (.tuple #[fV (dj (hdW ws)).1,.bool (dj (hdW ws)).2])∧KeptB w w' (fun q=>q=gp)∧PX w' gp gm wv ws d e :=
 (leaf_any (hdW ws) (qg h.wq) w h.tq).mono fun r w' ⟨h1,h2⟩=>⟨h1,ae h2,aO h h2⟩
theorem px_leafN (gp gm:Nat) (wv:Value) (ws:Ws) (d e:Int) (w:World) (h:PX w gp gm wv ws d e) (hl:dj (hdW ws)=(nd0,false)) :
  Calls Tryz.prog 210 #[.string (hdW ws)] w fun r w'=>r=.returned (.tuple #[.agg #[.int .i64 0,.int .i64 0,.int .i64 0,.int .i64 0,.int .i64 0,.int .i64 0],.bool false])∧KeptB w w' (fun q=>q=gp)∧PX w' gp gm wv ws d e:=by
 have h9:=o8 gp gm wv ws d e w h;rw [hl] at h9;exact h9
theorem px_leafY (gp gm:Nat) (wv:Value) (x:ByteArray) (ws:Ws) (n:Nd) (d e:Int) (w:World) (h:PX w gp gm wv (x :: ws) d e) (hl:dj x=(n,true)) :
  Calls Tryz.prog 210 #[.string x] w fun r w'=>r=.returned (.tuple #[.agg #[.int .i64 n.op,.int .i64 n.x,.int .i64 n.y,.int .i64 n.n,.int .i64 n.k,.int .i64 n.v],.bool true])∧KeptB w w' (fun q=>q=gp)∧PX w' gp gm wv (x :: ws) d e:=by
 have h9:=o8 gp gm wv (x :: ws) d e w h;rw [show hdW (x :: ws)=x from rfl,hl] at h9;exact h9
theorem kQ (gp gm:Nat) (wv:Value) (ws:Ws) (d e:Int) (w:World) (h:PX w gp gm wv ws d e) :
  Calls Tryz.prog 112 #[.pointer (some ⟨gp,0,none⟩),.iface 93 (.int .i64 4)] w fun r w'=>r=.returned (.tuple #[])∧KeptB w w' (fun q=>q=gp)∧PX w' gp gm (.slice none 0 0) [] d (oP e 4) :=
 (fL gp gm 4 (by decide) wv ws d e w h.ps).mono fun r w' ⟨h1,h2,h3⟩=>⟨h1,h2,cC h h2 h3⟩
theorem oH (gp gm:Nat) (wv:Value) (x:ByteArray) (ws:Ws) (d e:Int) (w:World) (h:PX w gp gm wv (x :: ws) d e) :
  Calls Tryz.prog 148 #[.pointer (some ⟨gp,0,none⟩)] w fun r w'=>r=.returned (.tuple #[])∧KeptB w w' (fun q=>q=gp)∧∃ wv',PX w' gp gm wv' ws d e :=
 (kx gp gm wv x ws d e w h.ps).mono fun r w' ⟨h1,h2,wv',h3⟩=>⟨h1,h2,wv',eH h h2 h3 (fun y hy=>List.mem_cons_of_mem _ hy)⟩
theorem atom_open (gp gm:Nat) (wv:Value) (ws ws1:Ws) (d:Int) (w:World) (h:PX w gp gm wv ws d 0) (ht:tk wOpen ws=some ws1) (T:PR)
  (DEW:∀ wv w,PX w gp gm wv ws1 d 0→Calls Tryz.prog 180 #[.pointer (some ⟨gp,0,none⟩),.func (.func 110) #[.pointer (some ⟨gp,0,none⟩)] #[]] w fun r w'=>PXR w w' gp gm d T r) :
  Calls Tryz.prog 208 #[.pointer (some ⟨gp,0,none⟩)] w fun r w'=>PXR w w' gp gm d (eB T) r:=by
 have TK:=aa (fX gp gm wOpen (by decide) wv ws ws1 d 0 w h ht);have DE:=aa DEW;have hlo:=h.ps.bd.lt;clear h ht DEW hlo
 go_enter Tryz.func208,Tryz.ntmps208
 go_wp2_with fail;refine TK.out.mono ?_;rintro r w1 ⟨rfl,hk1,wv1,hp1⟩;have K1:=aa hk1;have DD:=aa (DE.out wv1 w1 hp1);clear hk1 hp1 TK DE;go_wp2_with fail;refine DD.out.mono ?_;rintro r w2 ⟨hk2,hr2⟩;have K2:=aa (af K1.out hk2);clear hk2 DD K1;cases T with
 | error c =>
  obtain ⟨v2,wv2,rfl,hc,hp2⟩:=hr2;have HC:=aa hc;have MU:=aa (fH gp gm wClose (by decide) wv2 [] d c w2 hp2 rfl);rw [gZ hc.1] at MU;clear hc hp2;go_wp2_with fail;refine MU.out.mono ?_;rintro r w3 ⟨rfl,hk3,wv3,hp3⟩;have K3:=aa (af K2.out hk3);have P3:=aa hp3;clear hk3 hp3 MU K2;go_wp2_with fail
  go_ret
  exact cH K3.out HC.out P3.out
 | ok p =>
  obtain ⟨x,ws2⟩:=p;obtain ⟨v2,wv2,rfl,hn2,hp2⟩:=hr2;cases hcl:tk wClose ws2 with
  | none =>
   have e9:eB (.ok (x,ws2))=.error 4:=by unfold eB;simp only [hcl]
   have E9:=aa e9;have MU:=aa (fH gp gm wClose (by decide) wv2 ws2 d 0 w2 hp2 hcl);rw [mP] at MU;have N2:=aa hn2;clear hn2 hp2 hcl e9;go_wp2_with fail;refine MU.out.mono ?_;rintro r w3 ⟨rfl,hk3,wv3,hp3⟩;have K3:=aa (af K2.out hk3);have P3:=aa hp3;clear hk3 hp3 MU K2;go_wp2_with fail
   go_ret
   rw [E9.out];exact cH K3.out ⟨by decide,N2.out.sl⟩ P3.out
  | some ws3 =>
   have e9:eB (.ok (x,ws2))=.ok (x,ws3):=by unfold eB;simp only [hcl]
   have E9:=aa e9;have MU:=aa (iE gp gm wClose (by decide) wv2 ws2 ws3 d 0 w2 hp2 hcl);have N2:=aa hn2;clear hn2 hp2 hcl e9;go_wp2_with fail;refine MU.out.mono ?_;rintro r w3 ⟨rfl,hk3,wv3,hp3⟩;have N3:=aa (aU N2.out hk3 (fun q e9=>by omega));have K3:=aa (af K2.out hk3);have P3:=aa hp3;clear hk3 hp3 MU K2 N2;go_wp2_with fail
   go_ret
   rw [E9.out];exact mF K3.out N3.out P3.out
theorem leaf_none {ws:Ws} (h:dj (hdW ws)=(nd0,false)):leafP ws=.error 4:=by
 cases ws with
 | nil=>rfl
 | cons x r =>
  have h5:dj x=(nd0,false):=h;unfold dj at h5;cases hl:fT x with
  | none=>simp only [leafP,hl]
  | some n=>rw [hl] at h5;simp at h5
theorem lR {x:ByteArray} {r:Ws} {n:Nd} (h:fT x=some n):leafP (x :: r)=.ok ([n],r)∧dj x=(n,true):=by
 refine ⟨?_,by unfold dj;rw [h]⟩;simp only [leafP,h]
theorem leafB_or (ws:Ws):dj (hdW ws)=(nd0,false)∨∃ x r n,ws=x :: r∧fT x=some n:=by
 cases ws with
 | nil=>exact .inl rfl
 | cons x r =>
  cases hl:fT x with
  | none=>exact .inl (by show dj x=_;unfold dj;rw [hl])
  | some n=>exact .inr ⟨x,r,n,rfl,hl⟩
theorem mH (gp gm:Nat) (wv:Value) (ws:Ws) (d e:Int) (w:World) (h:PX w gp gm wv ws d e) (ht:tk wOpen ws=none) (hl:dj (hdW ws)=(nd0,false)) :
  Calls Tryz.prog 208 #[.pointer (some ⟨gp,0,none⟩)] w fun r w'=>r=.returned (.slice none 0 0)∧KeptB w w' (fun q=>q=gp)∧PX w' gp gm (.slice none 0 0) [] d (oP e 4):=by
 have TK:=aa (fW gp gm wOpen (by decide) wv ws d e w h ht);have NX:=aa (fun w hp=>kI gp gm wv ws d e w hp);have LF:=aa (fun w hp=>px_leafN gp gm wv ws d e w hp hl);have FL:=aa (fun w hp=>kQ gp gm wv ws d e w hp);clear h ht hl
 go_enter Tryz.func208,Tryz.ntmps208
 go_wp2_with fail;refine TK.out.mono ?_;rintro r w1 ⟨rfl,hk1,hp1⟩;have K1:=aa hk1;have N1:=aa (NX.out w1 hp1);clear hk1 hp1 TK NX;go_wp2_with fail;refine N1.out.mono ?_;rintro r w2 ⟨rfl,hk2,hp2⟩;have K2:=aa (af K1.out hk2);have L2:=aa (LF.out w2 hp2);clear hk2 hp2 N1 K1 LF;go_wp2_with fail;refine L2.out.mono ?_;rintro r w3 ⟨rfl,hk3,hp3⟩;have ba:=aj w3 (.cells #[.int .i64 0,.int .i64 0,.int .i64 0,.int .i64 0,.int .i64 0,.int .i64 0] 153);have K3:=aa (af K2.out (af hk3 (ae ba)));have F3:=aa (FL.out _ (aO hp3 ba));clear hk3 hp3 L2 K2 FL ba;go_wp2_with fail;refine F3.out.mono ?_;rintro r w4 ⟨rfl,hk4,hp4⟩;have K4:=aa (af K3.out hk4);have P4:=aa hp4;clear hk4 hp4 F3 K3;go_wp2_with fail
 go_ret
 exact ⟨rfl,K4.out,P4.out⟩
theorem new_six (w:World) (n:Nd):∀ j u,([.int .i64 n.op,.int .i64 n.x,.int .i64 n.y,.int .i64 n.n,.int .i64 n.k,.int .i64 n.v]:List Value)[j]?=some u→(w.alloc (.cells #[.int .i64 n.op,.int .i64 n.x,.int .i64 n.y,.int .i64 n.n,.int .i64 n.k,.int .i64 n.v] 153)).cell? ⟨w.heap.size,j,none⟩=some u:=by
 intro j u h;have h9:=cL w (.int .i64 n.op) (.int .i64 n.x) (.int .i64 n.y) (.int .i64 n.n) (.int .i64 n.k) (.int .i64 n.v) 153 j u h;rw [show (⟨w.heap.size,j,none⟩:Addr)=(⟨w.heap.size,0,none⟩:Addr).add j from by simp [Addr.add]];exact h9
theorem nds_one {w:World} {B:Nat} (n:Nd) (hB:B≤w.heap.size) (hw:WfN [n]):NdsR (w.alloc (.cells #[.int .i64 n.op,.int .i64 n.x,.int .i64 n.y,.int .i64 n.n,.int .i64 n.k,.int .i64 n.v] 153)) B (.slice (some ⟨w.heap.size,0,none⟩) 1 1) [n] :=
 ⟨World.ownsRow_lit (base:=B) (size:=6) (e:=153) w #[.int .i64 n.op,.int .i64 n.x,.int .i64 n.y,.int .i64 n.n,.int .i64 n.k,.int .i64 n.v] 1 hB (by decide) rfl,hw⟩
theorem atom_leaf (gp gm:Nat) (wv:Value) (x:ByteArray) (ws:Ws) (n:Nd) (d:Int) (w:World) (h:PX w gp gm wv (x :: ws) d 0) (ht:tk wOpen (x :: ws)=none) (hl:fT x=some n) :
  Calls Tryz.prog 208 #[.pointer (some ⟨gp,0,none⟩)] w fun r w'=>PXR w w' gp gm d (.ok ([n],ws)) r:=by
 have TK:=aa (fW gp gm wOpen (by decide) wv (x :: ws) d 0 w h ht);have NX:=aa (fun w hp=>kI gp gm wv (x :: ws) d 0 w hp);have e9:hdW (x :: ws)=x:=rfl;rw [e9] at NX;have LF:=aa (fun w hp=>px_leafY gp gm wv x ws n d 0 w hp (lR (r:=ws) hl).2);have SK:=aa (fun w hp=>oH gp gm wv x ws d 0 w hp);have WN:=aa (leaf_wf hl);obtain ⟨i0,hi0,hz0,hz1,hz2⟩:=info_parts infoN;clear h ht hl e9
 go_enter Tryz.func208,Tryz.ntmps208
 go_wp2_with fail;refine TK.out.mono ?_;rintro r w1 ⟨rfl,hk1,hp1⟩;have K1:=aa hk1;have N1:=aa (NX.out w1 hp1);clear hk1 hp1 TK NX;go_wp2_with fail;refine N1.out.mono ?_;rintro r w2 ⟨rfl,hk2,hp2⟩;have K2:=aa (af K1.out hk2);have L2:=aa (LF.out w2 hp2);clear hk2 hp2 N1 K1 LF;go_wp2_with fail;refine L2.out.mono ?_;rintro r w3 ⟨rfl,hk3,hp3⟩;have ba:=aj w3 (.cells #[.int .i64 n.op,.int .i64 n.x,.int .i64 n.y,.int .i64 n.n,.int .i64 n.k,.int .i64 n.v] 153);have K3:=aa (af K2.out (af hk3 (ae ba)));have S3:=aa (SK.out _ (aO hp3 ba));have hlt3:=hp3.ps.bd.lt;have cs3:=new_six w3 n;have CS3:=aa cs3;clear hk3 hp3 L2 K2 SK ba cs3;go_wp2_with fail;refine S3.out.mono ?_;rintro r w4 ⟨rfl,hk4,wv4,hp4⟩;have K4:=aa (af K3.out hk4);have P4:=aa hp4;have y0:=(aB hk4 (g:=w3.heap.size) 0 (by simp) (by omega)).trans (CS3.out 0 _ rfl);have y1:=(aB hk4 (g:=w3.heap.size) 1 (by simp) (by omega)).trans (CS3.out 1 _ rfl);have y2:=(aB hk4 (g:=w3.heap.size) 2 (by simp) (by omega)).trans (CS3.out 2 _ rfl);have y3:=(aB hk4 (g:=w3.heap.size) 3 (by simp) (by omega)).trans (CS3.out 3 _ rfl);have y4:=(aB hk4 (g:=w3.heap.size) 4 (by simp) (by omega)).trans (CS3.out 4 _ rfl);have y5:=(aB hk4 (g:=w3.heap.size) 5 (by simp) (by omega)).trans (CS3.out 5 _ rfl);clear hk4 hp4 S3 K3 CS3
 go_wp2_with (refine wpList_buildOneN rfl 26 153 _ rfl [.int .i64 n.op,.int .i64 n.x,.int .i64 n.y,.int .i64 n.n,.int .i64 n.k,.int .i64 n.v] 6 rfl i0 _ Tryz.underlying26 hi0 hz0 hz2 rfl (by omega) (by omega) ?_)
 go_ret
 have ba:=aj w4 (.cells #[.int .i64 n.op,.int .i64 n.x,.int .i64 n.y,.int .i64 n.n,.int .i64 n.k,.int .i64 n.v] 153);exact mF (af K4.out (ae ba)) (nds_one n P4.out.ps.bd.lt WN.out) (aO P4.out ba)
theorem atom_x (f gp gm:Nat) (wv:Value) (ws:Ws) (d:Nat) (hd:d≤12) (w:World) (h:PX w gp gm wv ws (d:Int) 0) (hT:lev (f+1) 7 ws d≠.error 99)
  (H1:∀ wv ws w (d:Nat),d≤12→PX w gp gm wv ws (d:Int) 0→lev f 0 ws d≠.error 99→Calls Tryz.prog 110 #[.pointer (some ⟨gp,0,none⟩)] w fun r w'=>PXR w w' gp gm (d:Int) (lev f 0 ws d) r) :
  Calls Tryz.prog 208 #[.pointer (some ⟨gp,0,none⟩)] w fun r w'=>PXR w w' gp gm (d:Int) (lev (f+1) 7 ws d) r:=by
 have e:lev (f+1) 7 ws d=(match tk wOpen ws with | some ws1=>eB (deepP (fun ws d=>lev f 0 ws d) ws1 d) | none=>leafP ws):=rfl;rw [e] at hT ⊢;cases ht:tk wOpen ws with
 | some ws1 =>
  rw [ht] at hT;have hT0:deepP (fun ws d=>lev f 0 ws d) ws1 d≠.error 99:=fun e9=>hT (by show eB _=_;rw [e9];rfl)
  exact atom_open gp gm wv ws ws1 d w h ht _ (fun wv w hp=>deeper_ps_expr (fun ws d=>lev f 0 ws d) gp gm wv ws1 d hd w hp hT0 (fun h12 w hp hne=>H1 wv ws1 w (d+1) (by omega) hp hne))
 | none =>
  show Calls _ _ _ _ fun r w'=>PXR w w' gp gm (d:Int) (leafP ws) r
  rcases leafB_or ws with hl | ⟨x,r,n,rfl,hl⟩
  ·rw [leaf_none hl];refine (mH gp gm wv ws d 0 w h ht hl).mono ?_;rintro r w1 ⟨rfl,hk,hp⟩;exact cH hk ⟨by decide,rfl⟩ hp
  ·rw [(lR (r:=r) hl).1];exact atom_leaf gp gm wv x r n d w h ht hl
theorem atom_e (gp gm:Nat) (wv:Value) (d e:Int) (he:e≠0) (w:World) (h:PX w gp gm wv [] d e) :
  Calls Tryz.prog 208 #[.pointer (some ⟨gp,0,none⟩)] w fun r w'=>ek w w' gp gm d e r:=by
 refine (mH gp gm wv [] d e w h rfl rfl).mono ?_;rintro r w1 ⟨rfl,hk,hp⟩;rw [gZ he] at hp;exact dL hk hp
end Go.Proofs.YtcgjflamgnjhcaaGreatDoor
namespace Go.Proofs.YtcgjflamgnjhcaaGreatDoor
open Go.ChangeShapes Go.WideShapes Go.ChangeAt Go.RowKit
theorem iq (gp gm:Nat) (d e:Int) (R:Prop) (w:World) (h:Calls Tryz.prog 191 #[.pointer (some ⟨gp,0,none⟩)] w fun r w'=>R∧ek w w' gp gm d e r) :
  Calls Tryz.prog 181 #[.pointer (some ⟨gp,0,none⟩)] w fun r w'=>R∧ek w w' gp gm d e r:=by
 have SU:=aa h;have TKH:=aa (fun wv w hp=>fW gp gm wIs (by decide) wv [] d e w hp rfl);have TSH:=aa (fun wv w hp=>oC gp gm 2 wv [] d e w hp rfl);clear h
 go_enter Tryz.func181,Tryz.ntmps181
 go_wp2_with fail;refine SU.out.mono ?_;rintro r w1 ⟨hR,hk1,v1,wv1,rfl,hs1,hp1⟩;have S1:=aa hs1;have HR:=aa hR;have K1:=aa hk1;have TK:=aa (TKH.out wv1 w1 hp1);clear hk1 hp1 hs1 SU TKH hR;go_wp2_with fail;refine TK.out.mono ?_;rintro r w2 ⟨rfl,hk2,hp2⟩;have K2:=aa (af K1.out hk2);have TS:=aa (TSH.out wv1 w2 hp2);clear hk2 hp2 TK K1 TSH;go_wp2_with fail;refine TS.out.mono ?_;rintro r w3 ⟨rfl,hk3,hp3⟩;have ba:=aj w3 (.cells #[.int .i64 0,.int .i64 0,.bool false,.bool false] 176);have K3:=aa (af K2.out (af hk3 (ae ba)));have P3:=aa (aO hp3 ba);clear hk3 hp3 TS K2 ba;go_wp2_with fail
 go_ret
 exact ⟨HR.out,dL K3.out P3.out S1.out⟩
theorem compare_bad (gp gm:Nat) (d e:Int) (w:World) (h:Calls Tryz.prog 191 #[.pointer (some ⟨gp,0,none⟩)] w fun r w'=>ek w w' gp gm d e r) :
  Calls Tryz.prog 181 #[.pointer (some ⟨gp,0,none⟩)] w fun r w'=>ek w w' gp gm d e r:=(iq gp gm d e True w (h.mono fun r w' h9=>⟨trivial,h9⟩)).mono fun r w' h9=>h9.2
theorem compare_err (gp gm:Nat) (d c:Int) (w:World) (h:Calls Tryz.prog 191 #[.pointer (some ⟨gp,0,none⟩)] w fun r w'=>PXR w w' gp gm d (.error c) r) :
  Calls Tryz.prog 181 #[.pointer (some ⟨gp,0,none⟩)] w fun r w'=>PXR w w' gp gm d (.error c) r:=by
 refine (iq gp gm d c (c≠0) w (h.mono fun r w' ⟨hk,v,wv',e9,hc,hp⟩=>⟨hc.1,hk,v,wv',e9,hc.2,hp⟩)).mono ?_;rintro r w' ⟨hc,hk,v,wv',rfl,hs,hp⟩;exact cH hk ⟨hc,hs⟩ hp
theorem compare_is (gp gm:Nat) (d:Int) (w:World) (x:List Nd) (ws ws1:Ws) (ht:tk wIs ws=some ws1) (h:Calls Tryz.prog 191 #[.pointer (some ⟨gp,0,none⟩)] w fun r w'=>PXR w w' gp gm d (.ok (x,ws)) r) :
  Calls Tryz.prog 181 #[.pointer (some ⟨gp,0,none⟩)] w fun r w'=>PXR w w' gp gm d (isP x ws1) r:=by
 have SU:=aa h;have TKH:=aa (fun wv w hp=>fX gp gm wIs (by decide) wv ws ws1 d 0 w hp ht);clear h ht
 go_enter Tryz.func181,Tryz.ntmps181
 go_wp2_with fail;refine SU.out.mono ?_;rintro r w1 ⟨hk1,v1,wv1,rfl,hn1,hp1⟩;have K1:=aa hk1;have TK:=aa (TKH.out wv1 w1 hp1);have N1:=aa hn1;have hlt:=hp1.ps.bd.lt;clear hk1 hp1 hn1 SU TKH;go_wp2_with fail;refine TK.out.mono ?_;rintro r w2 ⟨rfl,hk2,wv2,hp2⟩;have K2:=aa (af K1.out hk2);have IS:=aa (isNull_any gp gm v1 wv2 x ws1 d w2 hp2 (aU N1.out hk2 (fun q e9=>by omega)));clear hk2 hp2 TK K1 N1;go_wp2_with fail;refine IS.out.mono ?_;intro r w3 h3;have F3:=aa (eY K2.out h3);obtain ⟨v3,rfl⟩:=eG h3;clear h3 IS K2;go_wp2_with fail
 go_ret
 exact F3.out
theorem compare_none (gp gm:Nat) (d:Int) (w:World) (x:List Nd) (ws:Ws) (ht:tk wIs ws=none) (hts:tkS 2 ws=none) (h:Calls Tryz.prog 191 #[.pointer (some ⟨gp,0,none⟩)] w fun r w'=>PXR w w' gp gm d (.ok (x,ws)) r) :
  Calls Tryz.prog 181 #[.pointer (some ⟨gp,0,none⟩)] w fun r w'=>PXR w w' gp gm d (.ok (x,ws)) r:=by
 have SU:=aa h;have TKH:=aa (fun wv w hp=>fW gp gm wIs (by decide) wv ws d 0 w hp ht);have TSH:=aa (fun wv w hp=>oC gp gm 2 wv ws d 0 w hp hts);clear h ht hts
 go_enter Tryz.func181,Tryz.ntmps181
 go_wp2_with fail;refine SU.out.mono ?_;rintro r w1 ⟨hk1,v1,wv1,rfl,hn1,hp1⟩;have K1:=aa hk1;have TK:=aa (TKH.out wv1 w1 hp1);have N1:=aa hn1;clear hk1 hp1 hn1 SU TKH;go_wp2_with fail;refine TK.out.mono ?_;rintro r w2 ⟨rfl,hk2,hp2⟩;have K2:=aa (af K1.out hk2);have N2:=aa (aU N1.out hk2 (fun q e9=>by omega));have TS:=aa (TSH.out wv1 w2 hp2);clear hk2 hp2 TK K1 TSH N1;go_wp2_with fail;refine TS.out.mono ?_;rintro r w3 ⟨rfl,hk3,hp3⟩;have ba:=aj w3 (.cells #[.int .i64 0,.int .i64 0,.bool false,.bool false] 176);have K3:=aa (af K2.out (af hk3 (ae ba)));have P3:=aa (aO hp3 ba);have N3:=aa (bN (aU N2.out hk3 (fun q e9=>by omega)) ba);clear hk3 hp3 TS K2 ba N2;go_wp2_with fail
 go_ret
 exact mF K3.out N3.out P3.out
theorem compare_sign (gp gm:Nat) (d:Int) (w:World) (x:List Nd) (s:Sg) (ws ws1:Ws) (ht:tk wIs ws=none) (hts:tkS 2 ws=some (s,ws1)) (h:Calls Tryz.prog 191 #[.pointer (some ⟨gp,0,none⟩)] w fun r w'=>PXR w w' gp gm d (.ok (x,ws)) r)
  (T TT:PR) (hTe:∀ c,T=.error c→TT=.error c) (hTo:∀ y ws2,T=.ok (y,ws2)→TT=wth ws2 (jnS s x y))
  (HI:∀ wv w,PX w gp gm wv ws1 d 0→Calls Tryz.prog 191 #[.pointer (some ⟨gp,0,none⟩)] w fun r w'=>PXR w w' gp gm d T r) :
  Calls Tryz.prog 181 #[.pointer (some ⟨gp,0,none⟩)] w fun r w'=>PXR w w' gp gm d TT r:=by
 have SU:=aa h;have TKH:=aa (fun wv w hp=>fW gp gm wIs (by decide) wv ws d 0 w hp ht);have TSH:=aa (fun wv w hp=>px_signY gp gm 2 wv ws ws1 s d 0 w hp hts);have h2:=aa (iT hts);have HTE:=aa hTe;have HTO:=aa hTo;have HIH:=aa HI;clear h ht hts hTe hTo HI
 go_enter Tryz.func181,Tryz.ntmps181
 go_wp2_with fail;refine SU.out.mono ?_;rintro r w1 ⟨hk1,u3,wv1,rfl,hn1,hp1⟩;have K1:=aa hk1;have TK:=aa (TKH.out wv1 w1 hp1);have N1:=aa hn1;clear hk1 hp1 hn1 SU TKH;go_wp2_with fail;refine TK.out.mono ?_;rintro r w2 ⟨rfl,hk2,hp2⟩;have K2:=aa (af K1.out hk2);have N2:=aa (aU N1.out hk2 (fun q e9=>by omega));have TS:=aa (TSH.out wv1 w2 hp2);clear hk2 hp2 TK K1 TSH N1;go_wp2_with fail;refine TS.out.mono ?_;rintro r w3 ⟨rfl,hk3,wv3,hp3⟩;have BA:=aa (aj w3 (.cells #[.int .i64 s.rank,.int .i64 s.op,.bool s.turned,.bool s.denied] 176));have BL:=aa (az w3 [.int .i64 s.rank,.int .i64 s.op,.bool s.turned,.bool s.denied] 176);have P3:=aa (aO hp3 BA.out);have K3:=aa (af K2.out (af hk3 (ae BA.out)));have N3:=aa (bN (aU N2.out hk3 (fun q e9=>by omega)) BA.out);have hg3:=hp3.ps.bd.lt;clear hk3 hp3 TS K2 N2;go_wp2_with fail;generalize hg8:w3.heap.size=g8 at *;generalize w3.alloc (.cells #[.int .i64 s.rank,.int .i64 s.op,.bool s.turned,.bool s.denied] 176)=w4 at *;have l8:=BL.out.lt;have n8:¬ g8=gp:=by omega
 have y0:=BL.out.c 0 (by simp);have y1:=BL.out.c 1 (by simp);have y2:=BL.out.c 2 (by simp);have y3:=BL.out.c 3 (by simp);simp only [List.getElem?_cons_zero,List.getElem?_cons_succ] at y0 y1 y2 y3;have dd:Below w4.heap.size w4 ({ w4 with drawn:=w4.drawn+1 }:World):=(Below.refl _ _).drew;have HIN:=aa (HIH.out wv3 _ (aO P3.out dd));have hS:KeptB w4 ({ w4 with drawn:=w4.drawn+1 }:World) (fun q=>q=gp):=ae dd;have N4:=aa (bN N3.out dd);clear dd BA BL P3 N3;refine wp_region_held (S:=fun w'=>KeptB w4 w' (fun q=>q=gp)) (by kernel_rfl) ?_;generalize ({ w4 with drawn:=w4.drawn+1 }:World)=wd at *;refine HU 0 (v:=.pointer (some ⟨gp,0,none⟩)) rfl (fun wq hq=>by go_simp) hS ?_;refine HU 1 (v:=.agg #[.int .i64 s.rank,.int .i64 s.op,.bool s.turned,.bool s.denied]) rfl (fun wq hq=>by have q0:=(aB hq 0 l8 n8).trans y0;have q1:=(aB hq 1 l8 n8).trans y1;have q2:=(aB hq 2 l8 n8).trans y2;have q3:=(aB hq 3 l8 n8).trans y3;go_simp) hS ?_;refine HU 2 (v:=u3) rfl (fun wq hq=>by go_simp) hS ?_;refine HU 3 (v:=.pointer (some ⟨gp,0,none⟩)) rfl (fun wq hq=>by go_simp) hS ?_;refine HG 4 rfl ?_;intro K' hK;go_simp;refine HIN.out.mono ?_;rintro e w4 ⟨hk4,hr4⟩;have hS4:=af hS hk4;have hst:∃ v4,e=.returned v4∧∀ v5,v5=v4→Calls Tryz.prog 167 #[.pointer (some ⟨gp,0,none⟩),.agg #[.int .i64 s.rank,.int .i64 s.op,.bool s.turned,.bool s.denied],u3,v4] w4 fun e w5=>∃ v6,e=.returned v6∧PXR w4 w5 gp gm d TT (.returned v6):=by
  cases T with
  | error c =>
   obtain ⟨v4,wv4,e9,hc,hp4⟩:=hr4;refine ⟨v4,e9,fun v5 _=>?_⟩;refine (eM gp gm s u3 v4 wv4 [] d c hc.1 w4 hp4.ps).mono ?_;rintro e5 w5 ⟨hk5,v6,wv6,e6,hs6,hp6⟩;refine ⟨v6,e6,?_⟩;rw [HTE.out c rfl];exact cH hk5 ⟨hc.1,hs6⟩ (cC hp4 hk5 hp6)
  | ok p4 =>
   obtain ⟨y,ws2⟩:=p4;obtain ⟨v4,wv4,e9,hn4,hp4⟩:=hr4;refine ⟨v4,e9,fun v5 _=>?_⟩;refine (fu gp gm s h2.out u3 v4 wv4 x y ws2 d w4 hp4.ps (aU N4.out hk4 (fun q e9=>by omega)) hn4).mono ?_;intro e5 w5 h5;have h6:=pQ (w0:=w4) hp4 (fun y hy=>hy) h5;rw [← HTO.out y ws2 rfl] at h6;obtain ⟨v6,rfl⟩:=eG h6;exact ⟨v6,rfl,h6⟩
 obtain ⟨v4,rfl,hjb⟩:=hst;have JB:=aa (hjb v4 rfl);clear HIN hr4 hk4 hjb;refine hK _ _ ⟨hS4,?_⟩;clear hK;refine HG 5 rfl ?_;intro K' hK;go_simp;refine JB.out.mono ?_;rintro e w5 ⟨v6,rfl,h5⟩;have hS5:=af hS4 h5.1;have F5:=aa h5;clear JB h5;refine hK _ _ ⟨hS5,?_⟩;clear hK;refine HG 6 rfl ?_;intro K' hK;go_simp;refine hK _ _ ⟨hS5,?_⟩;clear hK;refine wpAnyH_done (by kernel_rfl) ?_ _;have K5:=aa (af K3.out hS4);clear hS hS4 hS5 y0 y1 y2 y3;go_wp2_with fail
 go_ret
 exact eY K5.out F5.out
theorem compare_x (f gp gm:Nat) (wv:Value) (ws:Ws) (d:Nat) (hd:d≤12) (w:World) (h:PX w gp gm wv ws (d:Int) 0) (hT:lev (f+1) 3 ws d≠.error 99)
  (H2:∀ wv ws w (d:Nat),d≤12→PX w gp gm wv ws (d:Int) 0→lev f 4 ws d≠.error 99→Calls Tryz.prog 191 #[.pointer (some ⟨gp,0,none⟩)] w fun r w'=>PXR w w' gp gm (d:Int) (lev f 4 ws d) r) :
  Calls Tryz.prog 181 #[.pointer (some ⟨gp,0,none⟩)] w fun r w'=>PXR w w' gp gm (d:Int) (lev (f+1) 3 ws d) r:=by
 have e:lev (f+1) 3 ws d=(match lev f 4 ws d with | .error c=>.error c | .ok (x,ws1)=>ma (fun ws=>lev f 4 ws d) x ws1):=rfl;rw [e] at hT ⊢;cases hs:lev f 4 ws d with
 | error c =>
  rw [hs] at hT;have h9:=H2 wv ws w d hd h (by rw [hs];exact hT);rw [hs] at h9
  show Calls _ _ _ _ fun r w'=>PXR w w' gp gm (d:Int) (.error c) r
  exact compare_err gp gm (d:Int) c w h9
 | ok p =>
  obtain ⟨x,ws1⟩:=p;rw [hs] at hT;have h9:=H2 wv ws w d hd h (by rw [hs];simp);rw [hs] at h9
  show Calls _ _ _ _ fun r w'=>PXR w w' gp gm (d:Int) (ma (fun ws=>lev f 4 ws d) x ws1) r
  cases ht:tk wIs ws1 with
  | some ws2 =>
   have e2:ma (fun ws=>lev f 4 ws d) x ws1=isP x ws2:=by unfold ma;rw [ht]
   rw [e2];exact compare_is gp gm (d:Int) w x ws1 ws2 ht h9
  | none =>
   cases hts:tkS 2 ws1 with
   | none =>
    have e2:ma (fun ws=>lev f 4 ws d) x ws1=.ok (x,ws1):=by unfold ma;rw [ht];simp only [hts]
    rw [e2];exact compare_none gp gm (d:Int) w x ws1 ht hts h9
   | some p =>
    obtain ⟨s,ws2⟩:=p;have e2:ma (fun ws=>lev f 4 ws d) x ws1=(match lev f 4 ws2 d with | .error c=>.error c | .ok (y,ws3)=>wth ws3 (jnS s x y)):=by unfold ma;rw [ht];simp only [hts];cases lev f 4 ws2 d <;> rfl
    have hne:lev f 4 ws2 d≠.error 99:=fun e9=>hT (by show ma _ x ws1=_;rw [e2,e9])
    exact compare_sign gp gm (d:Int) w x s ws1 ws2 ht hts h9 (lev f 4 ws2 d) _ (fun c e9=>by rw [e2,e9]) (fun y ws3 e9=>by rw [e2,e9]) (fun wv w hp=>H2 wv ws2 w d hd hp hne)
theorem compare_e (gp gm:Nat) (wv:Value) (d e:Int) (w:World) (h:PX w gp gm wv [] d e)
  (H2:∀ wv w,PX w gp gm wv [] d e→Calls Tryz.prog 191 #[.pointer (some ⟨gp,0,none⟩)] w fun r w'=>ek w w' gp gm d e r) :
  Calls Tryz.prog 181 #[.pointer (some ⟨gp,0,none⟩)] w fun r w'=>ek w w' gp gm d e r:=compare_bad gp gm d e w (H2 wv w h)
def Sh (ws:Ws) (r:PR):Prop:=∀ l ws',r=.ok (l,ws')→ws'.length≤ws.length
theorem el {ws:Ws} {c:Int}:Sh ws (.error c):=fun l ws' e=>by cases e
theorem pe {ws ws':Ws} {l:List Nd} (h:ws'.length≤ws.length):Sh ws (.ok (l,ws')):=fun l' ws9 e=>by cases e;exact h
theorem nO {ws ws0:Ws} {r:PR} (h:Sh ws r) (hl:ws.length≤ws0.length):Sh ws0 r:=fun l ws' e=>by have:=h l ws' e;omega
theorem oE {ws ws0:Ws} {r:Except Int (List Nd)} (hl:ws.length≤ws0.length):Sh ws0 (wth ws r):=by
 unfold wth;cases r with
 | error c=>exact el
 | ok l=>exact pe hl
theorem og (inner:Ws→PR) (rank:Int) (hin:∀ ws,Sh ws (inner ws)):∀ (k:Nat) (x:List Nd) (ws:Ws),Sh ws (fZ inner rank k x ws)
 | 0,_,_=>el
 | k+1,x,ws=>by
  unfold fZ;cases hs:tkS rank ws with
  | none=>exact pe (Nat.le_refl _)
  | some p =>
   obtain ⟨s,ws1⟩:=p;have h1:=fC hs
   simp only
   cases hi:inner ws1 with
   | error c=>exact el
   | ok q =>
    obtain ⟨y,ws2⟩:=q;have h2:=hin ws1 y ws2 hi
    simp only
    cases hz:jnS s x y with
    | error c=>exact el
    | ok z=>exact nO (og inner rank hin k z ws2) (by omega)
theorem ko (inner:Ws→PR) (rank:Int) (k:Nat) (ws:Ws) (hin:∀ ws,Sh ws (inner ws)):Sh ws (rowP inner rank k ws):=by
 unfold rowP;cases hi:inner ws with
 | error c=>exact el
 | ok p =>
  obtain ⟨x,ws1⟩:=p;exact nO (og inner rank hin k x ws1) (hin ws x ws1 hi)
theorem mf (inner:Ws→Nat→PR) (ws:Ws) (d:Nat) (h:∀ d',Sh ws (inner ws d')):Sh ws (deepP inner ws d):=by
 unfold deepP
 split
 ·exact el
 ·exact h _
theorem mK (op:Int) (ws:Ws) (r:PR) (h:Sh ws r):Sh ws (aheadP op r):=by
 unfold aheadP;cases r with
 | error c=>exact el
 | ok p=>obtain ⟨x,ws1⟩:=p;exact oE (h x ws1 rfl)
theorem oK (x:List Nd) (dn:Bool) (ws ws0:Ws) (h:ws.length≤ws0.length):Sh ws0 (fU x dn ws):=by
 unfold fU;cases ht:tk wNull ws with
 | none=>exact el
 | some ws1=>exact oE (by have:=cY ht;omega)
theorem cmp_sh (inner:Ws→PR) (x:List Nd) (ws:Ws) (hin:∀ ws,Sh ws (inner ws)):Sh ws (ma inner x ws):=by
 unfold ma;cases ht:tk wIs ws with
 | some ws1 =>
  have:=cY ht
  simp only
  unfold isP;cases hn:tk wNot ws1 with
  | some ws2=>have:=cY hn;exact oK _ _ _ _ (by omega)
  | none=>exact oK _ _ _ _ (by omega)
 | none =>
  simp only
  cases hs:tkS 2 ws with
  | none=>exact pe (Nat.le_refl _)
  | some p =>
   obtain ⟨s,ws1⟩:=p;have h1:=fC hs
   simp only
   cases hi:inner ws1 with
   | error c=>exact el
   | ok q =>
    obtain ⟨y,ws2⟩:=q;have h2:=hin ws1 y ws2 hi;exact oE (by omega)
theorem close_sh (ws:Ws) (r:PR) (h:Sh ws r):Sh ws (eB r):=by
 unfold eB;cases r with
 | error c=>exact el
 | ok p =>
  obtain ⟨x,ws1⟩:=p;have h1:=h x ws1 rfl
  simp only
  cases ht:tk wClose ws1 with
  | none=>exact el
  | some ws2=>exact pe (by have:=cY ht;omega)
theorem leaf_sh (ws:Ws):Sh ws (leafP ws):=by
 cases ws with
 | nil=>exact el
 | cons w r =>
  simp only [leafP];cases fT w with
  | none=>exact el
  | some n=>exact pe (by simp)
theorem lev_sh:∀ (f n:Nat) (ws:Ws) (d:Nat),n≤7→Sh ws (lev f n ws d):=by
 intro f
 induction f with
 | zero=>intro n ws d hn;exact fun l ws' e=>by simp [lev] at e
 | succ f ih =>
  intro n ws d hn
  match n,hn with
  | 0,_=>exact ko _ _ _ _ (fun ws'=>ih 1 ws' d (by omega))
  | 1,_=>exact ko _ _ _ _ (fun ws'=>ih 2 ws' d (by omega))
  | 2,_ =>
   show Sh ws (match tk wNot ws with
    | some ws1=>aheadP 4 (deepP (fun ws d=>lev f 2 ws d) ws1 d)
    | none=>lev f 3 ws d)
   cases ht:tk wNot ws with
   | some ws1 =>
    have:=cY ht
    exact nO (mK _ _ _ (mf _ _ _ (fun d'=>ih 2 ws1 d' (by omega)))) (by omega)
   | none=>exact ih 3 ws d (by omega)
  | 3,_ =>
   have hf:=ih 4 ws d (by omega)
   show Sh ws (match lev f 4 ws d with
    | .error c=>.error c
    | .ok (x,ws1)=>ma (fun ws=>lev f 4 ws d) x ws1)
   cases hi:lev f 4 ws d with
   | error c=>exact el
   | ok p =>
    obtain ⟨x,ws1⟩:=p;exact nO (cmp_sh _ x ws1 (fun ws'=>ih 4 ws' d (by omega))) (hf x ws1 hi)
  | 4,_=>exact ko _ _ _ _ (fun ws'=>ih 5 ws' d (by omega))
  | 5,_=>exact ko _ _ _ _ (fun ws'=>ih 6 ws' d (by omega))
  | 6,_ =>
   show Sh ws (match tk wMinus ws with
    | some ws1=>aheadP 3 (deepP (fun ws d=>lev f 6 ws d) ws1 d)
    | none=>lev f 7 ws d)
   cases ht:tk wMinus ws with
   | some ws1 =>
    have:=cY ht
    exact nO (mK _ _ _ (mf _ _ _ (fun d'=>ih 6 ws1 d' (by omega)))) (by omega)
   | none=>exact ih 7 ws d (by omega)
  | 7,_ =>
   show Sh ws (match tk wOpen ws with
    | some ws1=>eB (deepP (fun ws d=>lev f 0 ws d) ws1 d)
    | none=>leafP ws)
   cases ht:tk wOpen ws with
   | some ws1 =>
    have:=cY ht
    exact nO (close_sh _ _ (mf _ _ _ (fun d'=>ih 0 ws1 d' (by omega)))) (by omega)
   | none=>exact leaf_sh ws
theorem bad_atom (gp gm:Nat) (d e:Int) (he:e≠0) (wv:Value) (w:World) (h:PX w gp gm wv [] d e):Calls Tryz.prog 208 #[.pointer (some ⟨gp,0,none⟩)] w fun r w'=>ek w w' gp gm d e r:=atom_e gp gm wv d e he w h
theorem lT (gp gm:Nat) (d e:Int) (he:e≠0) (wv:Value) (w:World) (h:PX w gp gm wv [] d e):Calls Tryz.prog 204 #[.pointer (some ⟨gp,0,none⟩)] w fun r w'=>ek w w' gp gm d e r:=unary_e gp gm wv d e w h (fun wv w h=>bad_atom gp gm d e he wv w h)
theorem jv (gp gm:Nat) (d e:Int) (he:e≠0) (wv:Value) (w:World) (h:PX w gp gm wv [] d e):Calls Tryz.prog 199 #[.pointer (some ⟨gp,0,none⟩)] w fun r w'=>ek w w' gp gm d e r:=product_e gp gm wv d e he w h (fun wv w h=>lT gp gm d e he wv w h)
theorem bad_sum (gp gm:Nat) (d e:Int) (he:e≠0) (wv:Value) (w:World) (h:PX w gp gm wv [] d e):Calls Tryz.prog 191 #[.pointer (some ⟨gp,0,none⟩)] w fun r w'=>ek w w' gp gm d e r:=sum_e gp gm wv d e he w h (fun wv w h=>jv gp gm d e he wv w h)
theorem bad_compare (gp gm:Nat) (d e:Int) (he:e≠0) (wv:Value) (w:World) (h:PX w gp gm wv [] d e):Calls Tryz.prog 181 #[.pointer (some ⟨gp,0,none⟩)] w fun r w'=>ek w w' gp gm d e r:=compare_e gp gm wv d e w h (fun wv w h=>bad_sum gp gm d e he wv w h)
theorem oU (gp gm:Nat) (d e:Int) (he:e≠0) (wv:Value) (w:World) (h:PX w gp gm wv [] d e):Calls Tryz.prog 168 #[.pointer (some ⟨gp,0,none⟩)] w fun r w'=>ek w w' gp gm d e r:=not_e gp gm wv d e w h (fun wv w h=>bad_compare gp gm d e he wv w h)
theorem p8 (gp gm:Nat) (d e:Int) (he:e≠0) (wv:Value) (w:World) (h:PX w gp gm wv [] d e):Calls Tryz.prog 150 #[.pointer (some ⟨gp,0,none⟩)] w fun r w'=>ek w w' gp gm d e r:=and_e gp gm wv d e he w h (fun wv w h=>oU gp gm d e he wv w h)
theorem bad_expr (gp gm:Nat) (d e:Int) (he:e≠0) (wv:Value) (w:World) (h:PX w gp gm wv [] d e):Calls Tryz.prog 110 #[.pointer (some ⟨gp,0,none⟩)] w fun r w'=>ek w w' gp gm d e r:=expr_e gp gm wv d e he w h (fun wv w h=>p8 gp gm d e he wv w h)
def pC (gp gm f n:Nat) (F:FuncId):Prop:=∀ wv ws w (d:Nat),d≤12→PX w gp gm wv ws (d:Int) 0→lev f n ws d≠.error 99→Calls Tryz.prog F #[.pointer (some ⟨gp,0,none⟩)] w fun r w'=>PXR w w' gp gm (d:Int) (lev f n ws d) r
structure Lev8 (gp gm f:Nat):Prop where
 l0:pC gp gm f 0 110
 l1:pC gp gm f 1 150
 l2:pC gp gm f 2 168
 l3:pC gp gm f 3 181
 l4:pC gp gm f 4 191
 l5:pC gp gm f 5 199
 l6:pC gp gm f 6 204
 l7:pC gp gm f 7 208
theorem lev8 (gp gm:Nat):∀ f,Lev8 gp gm f:=by
 intro f
 induction f with
 | zero =>
  have z:∀ n F,pC gp gm 0 n F:=fun n F wv ws w d hd h hT=>absurd (by simp [lev]) hT
  exact ⟨z _ _,z _ _,z _ _,z _ _,z _ _,z _ _,z _ _,z _ _⟩
 | succ f ih =>
  refine ⟨?_,?_,?_,?_,?_,?_,?_,?_⟩ <;> intro wv ws w d hd h hT
  ·exact expr_x f gp gm wv ws d hd w h hT ih.l1 (fun wv e w d he hp=>p8 gp gm d e he wv w hp) (fun ws y ws2 e=>lev_sh f 1 ws d (by decide) y ws2 e)
  ·exact and_x f gp gm wv ws d hd w h hT ih.l2 (fun wv e w d he hp=>oU gp gm d e he wv w hp) (fun ws y ws2 e=>lev_sh f 2 ws d (by decide) y ws2 e)
  ·exact not_x f gp gm wv ws d hd w h hT ih.l2 ih.l3
  ·exact compare_x f gp gm wv ws d hd w h hT ih.l4
  ·exact sum_x f gp gm wv ws d hd w h hT ih.l5 (fun wv e w d he hp=>jv gp gm d e he wv w hp) (fun ws y ws2 e=>lev_sh f 5 ws d (by decide) y ws2 e)
  ·exact product_x f gp gm wv ws d hd w h hT ih.l6 (fun wv e w d he hp=>lT gp gm d e he wv w hp) (fun ws y ws2 e=>lev_sh f 6 ws d (by decide) y ws2 e)
  ·exact unary_x f gp gm wv ws d hd w h hT ih.l6 ih.l7
  ·exact atom_x f gp gm wv ws d hd w h hT ih.l0
theorem expr_any (gp gm:Nat) (wv:Value) (ws:Ws) (w:World) (h:PX w gp gm wv ws 0 0) (hl:ws.length≤100) :
  Calls Tryz.prog 110 #[.pointer (some ⟨gp,0,none⟩)] w fun r w'=>PXR w w' gp gm 0 (lev FU 0 ws 0) r :=
 (lev8 gp gm FU).l0 wv ws w 0 (by decide) h (expr_fine ws 0 hl).1
theorem px_numN (gp gm:Nat) (wv:Value) (ws:Ws) (d e:Int) (w:World) (h:PX w gp gm wv ws d e) (hn:lN 1000 (hdW ws)=(0,false)) :
  Calls Tryz.prog 151 #[.string (hdW ws),.int .i64 1000] w fun r w'=>r=.returned (.tuple #[.int .i64 0,.bool false])∧KeptB w w' (fun q=>q=gp)∧PX w' gp gm wv ws d e:=by
 have h9:=fd 1000 (by decide) (hdW ws) (qg h.wq) w h.tq.t;rw [hn] at h9;exact h9.mono fun r w' ⟨h1,h2⟩=>⟨h1,ae h2,aO h h2⟩
theorem px_numY (gp gm:Nat) (wv:Value) (x:ByteArray) (ws:Ws) (n d e:Int) (w:World) (h:PX w gp gm wv (x :: ws) d e) (hn:lN 1000 x=(n,true)) :
  Calls Tryz.prog 151 #[.string x,.int .i64 1000] w fun r w'=>r=.returned (.tuple #[.int .i64 n,.bool true])∧KeptB w w' (fun q=>q=gp)∧PX w' gp gm wv (x :: ws) d e:=by
 have h9:=fd 1000 (by decide) x (qg h.wq) w h.tq.t;rw [hn] at h9;exact h9.mono fun r w' ⟨h1,h2⟩=>⟨h1,ae h2,aO h h2⟩
theorem mt (gp gm:Nat) (wv:Value) (ws:Ws) (d e:Int) (w:World) (h:PX w gp gm wv ws d e) (hn:lN 1000 (hdW ws)=(0,false)) :
  Calls Tryz.prog 111 #[.pointer (some ⟨gp,0,none⟩)] w fun r w'=>r=.returned (.int .i64 0)∧KeptB w w' (fun q=>q=gp)∧PX w' gp gm (.slice none 0 0) [] d (oP e 4):=by
 have NX:=aa (kI gp gm wv ws d e w h);have NU:=aa (fun w hp=>px_numN gp gm wv ws d e w hp hn);have FL:=aa (fun w hp=>kQ gp gm wv ws d e w hp);clear h hn
 go_enter Tryz.func111,Tryz.ntmps111
 go_wp2_with fail;refine NX.out.mono ?_;rintro r w1 ⟨rfl,hk1,hp1⟩;have K1:=aa hk1;have N1:=aa (NU.out w1 hp1);clear hk1 hp1 NX NU;go_wp2_with fail;refine N1.out.mono ?_;rintro r w2 ⟨rfl,hk2,hp2⟩;have K2:=aa (af K1.out hk2);have F2:=aa (FL.out w2 hp2);clear hk2 hp2 N1 K1 FL;go_wp2_with fail;refine F2.out.mono ?_;rintro r w3 ⟨rfl,hk3,hp3⟩;have K3:=aa (af K2.out hk3);have P3:=aa hp3;clear hk3 hp3 F2 K2;go_wp2_with fail
 go_ret
 exact ⟨rfl,K3.out,P3.out⟩
theorem span_yes (gp gm:Nat) (wv:Value) (x:ByteArray) (ws:Ws) (n d e:Int) (w:World) (h:PX w gp gm wv (x :: ws) d e) (hn:lN 1000 x=(n,true)) :
  Calls Tryz.prog 111 #[.pointer (some ⟨gp,0,none⟩)] w fun r w'=>r=.returned (.int .i64 n)∧KeptB w w' (fun q=>q=gp)∧∃ wv',PX w' gp gm wv' ws d e:=by
 have NX:=aa (kI gp gm wv (x :: ws) d e w h);have e9:hdW (x :: ws)=x:=rfl;rw [e9] at NX;have NU:=aa (fun w hp=>px_numY gp gm wv x ws n d e w hp hn);have SK:=aa (fun w hp=>oH gp gm wv x ws d e w hp);clear h hn e9
 go_enter Tryz.func111,Tryz.ntmps111
 go_wp2_with fail;refine NX.out.mono ?_;rintro r w1 ⟨rfl,hk1,hp1⟩;have K1:=aa hk1;have N1:=aa (NU.out w1 hp1);clear hk1 hp1 NX NU;go_wp2_with fail;refine N1.out.mono ?_;rintro r w2 ⟨rfl,hk2,hp2⟩;have K2:=aa (af K1.out hk2);have S2:=aa (SK.out w2 hp2);clear hk2 hp2 N1 K1 SK;go_wp2_with fail;refine S2.out.mono ?_;rintro r w3 ⟨rfl,hk3,wv3,hp3⟩;have K3:=aa (af K2.out hk3);have P3:=aa hp3;clear hk3 hp3 S2 K2;go_wp2_with fail
 go_ret
 exact ⟨rfl,K3.out,wv3,P3.out⟩
theorem name_2 (w:World):Calls Tryz.prog 165 #[.int .i64 2] w fun r w'=>r=.returned (.string wCount)∧Below w.heap.size w w':=by
 go_enter Tryz.func165,Tryz.ntmps165
 go_wp2_with fail
 go_ret
 exact ⟨rfl,Below.refl _ _⟩
theorem name_3 (w:World):Calls Tryz.prog 165 #[.int .i64 3] w fun r w'=>r=.returned (.string wSum)∧Below w.heap.size w w':=by
 go_enter Tryz.func165,Tryz.ntmps165
 go_wp2_with fail
 go_ret
 exact ⟨rfl,Below.refl _ _⟩
theorem name_4 (w:World):Calls Tryz.prog 165 #[.int .i64 4] w fun r w'=>r=.returned (.string wMin)∧Below w.heap.size w w':=by
 go_enter Tryz.func165,Tryz.ntmps165
 go_wp2_with fail
 go_ret
 exact ⟨rfl,Below.refl _ _⟩
theorem name_5 (w:World):Calls Tryz.prog 165 #[.int .i64 5] w fun r w'=>r=.returned (.string wMax)∧Below w.heap.size w w':=by
 go_enter Tryz.func165,Tryz.ntmps165
 go_wp2_with fail
 go_ret
 exact ⟨rfl,Below.refl _ _⟩
def nP (w w':World) (gp gm:Nat) (ws:Ws) (d e:Int) (r:Ending):Prop:=KeptB w w' (fun q=>q=gp)∧match lS ws with
 | some (k,ws1)=>r=.returned (.int .i64 k)∧∃ wv',PX w' gp gm wv' ws1 d e
 | none=>r=.returned (.int .i64 0)∧PX w' gp gm (.slice none 0 0) [] d (oP e 4)
def KS (ws:Ws) (v:Value):Prop:=v=.int .i64 2∨(v=.int .i64 3∧tk wCount ws=none)∨(v=.int .i64 4∧tk wCount ws=none∧tk wSum ws=none) ∨
 (v=.int .i64 5∧tk wCount ws=none∧tk wSum ws=none∧tk wMin ws=none)∨(v=.int .i64 6∧tk wCount ws=none∧tk wSum ws=none∧tk wMin ws=none∧tk wMax ws=none)
theorem iW (gp gm:Nat) (wv:Value) (ws:Ws) (d e:Int) (w:World) (h:PX w gp gm wv ws d e) :
  Calls Tryz.prog 146 #[.pointer (some ⟨gp,0,none⟩)] w fun r w'=>nP w w' gp gm ws d e r:=by
 have H0:=aa h;have R0:=aa (ae (bad:=fun q=>q=gp) (Below.refl w.heap.size w));clear h
 go_enter Tryz.func146,Tryz.ntmps146
 go_wp2_with fail
 go_loopw [3] (fun v wr=>KS ws v∧Hid (KeptB w wr (fun q=>q=gp))∧Hid (PX wr gp gm wv ws d e)) (fun v _=>6 - (intOf v).toNat)
 case atStart=>exact ⟨.inl rfl,R0,H0⟩
 case round =>
  clear R0 H0;obtain ⟨hks,HK,HP⟩:=hrel
  rcases hks with rfl | ⟨rfl,t0⟩ | ⟨rfl,t0,t1⟩ | ⟨rfl,t0,t1,t2⟩ | ⟨rfl,t0,t1,t2,t3⟩
  ·have NM:=aa (name_2 wr);cases ht:tk wCount ws with
   | some r =>
    have ea:lS ws=some (2,r):=by unfold lS;simp only [ht]
    have EA:=aa ea;have TK:=aa (fun w hp=>fX gp gm wCount (by decide) wv ws r d e w hp ht);clear ht ea;go_wp2_with fail;refine NM.out.mono ?_;rintro r1 w1 ⟨rfl,hb1⟩;have K1:=aa (af HK.out (ae hb1));have T1:=aa (TK.out w1 (aO HP.out hb1));clear hb1 NM HK TK HP;go_wp2_with fail;refine T1.out.mono ?_;rintro r2 w2 ⟨rfl,hk2,wv2,hp2⟩;have K2:=aa (af K1.out hk2);have P2:=aa hp2;clear hk2 hp2 T1 K1;go_wp2_with fail
    go_ret
    unfold nP;rw [EA.out];exact ⟨K2.out,rfl,wv2,P2.out⟩
   | none =>
    have TK:=aa (fun w hp=>fW gp gm wCount (by decide) wv ws d e w hp ht);have HT:=aa ht;clear ht;go_wp2_with fail;refine NM.out.mono ?_;rintro r1 w1 ⟨rfl,hb1⟩;have K1:=aa (af HK.out (ae hb1));have T1:=aa (TK.out w1 (aO HP.out hb1));clear hb1 NM HK TK HP;go_wp2_with fail;refine T1.out.mono ?_;rintro r2 w2 ⟨rfl,hk2,hp2⟩;have K2:=aa (af K1.out hk2);have P2:=aa hp2;clear hk2 hp2 T1 K1;go_wp2_with fail;go_roundw
    case rel=>exact ⟨.inr (.inl ⟨rfl,HT.out⟩),K2,P2⟩
    case measure=>decide
  ·have NM:=aa (name_3 wr);cases ht:tk wSum ws with
   | some r =>
    have ea:lS ws=some (3,r):=by unfold lS;simp only [t0,ht]
    have EA:=aa ea;have TK:=aa (fun w hp=>fX gp gm wSum (by decide) wv ws r d e w hp ht);clear ht ea t0;go_wp2_with fail;refine NM.out.mono ?_;rintro r1 w1 ⟨rfl,hb1⟩;have K1:=aa (af HK.out (ae hb1));have T1:=aa (TK.out w1 (aO HP.out hb1));clear hb1 NM HK TK HP;go_wp2_with fail;refine T1.out.mono ?_;rintro r2 w2 ⟨rfl,hk2,wv2,hp2⟩;have K2:=aa (af K1.out hk2);have P2:=aa hp2;clear hk2 hp2 T1 K1;go_wp2_with fail
    go_ret
    unfold nP;rw [EA.out];exact ⟨K2.out,rfl,wv2,P2.out⟩
   | none =>
    have TK:=aa (fun w hp=>fW gp gm wSum (by decide) wv ws d e w hp ht);have HT:=aa ht;have T0:=aa t0;clear ht t0;go_wp2_with fail;refine NM.out.mono ?_;rintro r1 w1 ⟨rfl,hb1⟩;have K1:=aa (af HK.out (ae hb1));have T1:=aa (TK.out w1 (aO HP.out hb1));clear hb1 NM HK TK HP;go_wp2_with fail;refine T1.out.mono ?_;rintro r2 w2 ⟨rfl,hk2,hp2⟩;have K2:=aa (af K1.out hk2);have P2:=aa hp2;clear hk2 hp2 T1 K1;go_wp2_with fail;go_roundw
    case rel=>exact ⟨.inr (.inr (.inl ⟨rfl,T0.out,HT.out⟩)),K2,P2⟩
    case measure=>decide
  ·have NM:=aa (name_4 wr);cases ht:tk wMin ws with
   | some r =>
    have ea:lS ws=some (4,r):=by unfold lS;simp only [t0,t1,ht]
    have EA:=aa ea;have TK:=aa (fun w hp=>fX gp gm wMin (by decide) wv ws r d e w hp ht);clear ht ea t0 t1;go_wp2_with fail;refine NM.out.mono ?_;rintro r1 w1 ⟨rfl,hb1⟩;have K1:=aa (af HK.out (ae hb1));have T1:=aa (TK.out w1 (aO HP.out hb1));clear hb1 NM HK TK HP;go_wp2_with fail;refine T1.out.mono ?_;rintro r2 w2 ⟨rfl,hk2,wv2,hp2⟩;have K2:=aa (af K1.out hk2);have P2:=aa hp2;clear hk2 hp2 T1 K1;go_wp2_with fail
    go_ret
    unfold nP;rw [EA.out];exact ⟨K2.out,rfl,wv2,P2.out⟩
   | none =>
    have TK:=aa (fun w hp=>fW gp gm wMin (by decide) wv ws d e w hp ht);have HT:=aa ht;have T0:=aa t0;have T1:=aa t1;clear ht t0 t1;go_wp2_with fail;refine NM.out.mono ?_;rintro r1 w1 ⟨rfl,hb1⟩;have K1:=aa (af HK.out (ae hb1));have T1:=aa (TK.out w1 (aO HP.out hb1));clear hb1 NM HK TK HP;go_wp2_with fail;refine T1.out.mono ?_;rintro r2 w2 ⟨rfl,hk2,hp2⟩;have K2:=aa (af K1.out hk2);have P2:=aa hp2;clear hk2 hp2 T1 K1;go_wp2_with fail;go_roundw
    case rel=>exact ⟨.inr (.inr (.inr (.inl ⟨rfl,T0.out,T1.out,HT.out⟩))),K2,P2⟩
    case measure=>decide
  ·have NM:=aa (name_5 wr);cases ht:tk wMax ws with
   | some r =>
    have ea:lS ws=some (5,r):=by unfold lS;simp only [t0,t1,t2,ht]
    have EA:=aa ea;have TK:=aa (fun w hp=>fX gp gm wMax (by decide) wv ws r d e w hp ht);clear ht ea t0 t1 t2;go_wp2_with fail;refine NM.out.mono ?_;rintro r1 w1 ⟨rfl,hb1⟩;have K1:=aa (af HK.out (ae hb1));have T1:=aa (TK.out w1 (aO HP.out hb1));clear hb1 NM HK TK HP;go_wp2_with fail;refine T1.out.mono ?_;rintro r2 w2 ⟨rfl,hk2,wv2,hp2⟩;have K2:=aa (af K1.out hk2);have P2:=aa hp2;clear hk2 hp2 T1 K1;go_wp2_with fail
    go_ret
    unfold nP;rw [EA.out];exact ⟨K2.out,rfl,wv2,P2.out⟩
   | none =>
    have TK:=aa (fun w hp=>fW gp gm wMax (by decide) wv ws d e w hp ht);have HT:=aa ht;have T0:=aa t0;have T1:=aa t1;have T2:=aa t2;clear ht t0 t1 t2;go_wp2_with fail;refine NM.out.mono ?_;rintro r1 w1 ⟨rfl,hb1⟩;have K1:=aa (af HK.out (ae hb1));have T1:=aa (TK.out w1 (aO HP.out hb1));clear hb1 NM HK TK HP;go_wp2_with fail;refine T1.out.mono ?_;rintro r2 w2 ⟨rfl,hk2,hp2⟩;have K2:=aa (af K1.out hk2);have P2:=aa hp2;clear hk2 hp2 T1 K1;go_wp2_with fail;go_roundw
    case rel=>exact ⟨.inr (.inr (.inr (.inr (⟨rfl,T0.out,T1.out,T2.out,HT.out⟩)))),K2,P2⟩
    case measure=>decide
  ·have ea:lS ws=none:=by unfold lS;simp only [t0,t1,t2,t3]
   have EA:=aa ea;have FL:=aa (kQ gp gm wv ws d e wr HP.out);clear ea t0 t1 t2 t3 HP;go_wp2_with fail;refine FL.out.mono ?_;rintro r1 w1 ⟨rfl,hk1,hp1⟩;have K1:=aa (af HK.out hk1);have P1:=aa hp1;clear hk1 hp1 HK FL;go_wp2_with fail
   go_ret
   unfold nP;rw [EA.out];exact ⟨K1.out,rfl,P1.out⟩
end Go.Proofs.YtcgjflamgnjhcaaGreatDoor

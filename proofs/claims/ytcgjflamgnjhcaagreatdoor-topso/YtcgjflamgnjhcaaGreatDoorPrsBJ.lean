/- Own texts in one. Conditions: as named in each. -/
import Derived.Test.YtcgjflamgnjhcaaGreatDoorPrs9J
import Derived.Great.BuildSlice
import Derived.Great.FillDense
set_option linter.unusedVariables false
set_option linter.unusedSimpArgs false
set_option maxRecDepth 100000
set_option maxHeartbeats 8000000
namespace Go.Proofs.YtcgjflamgnjhcaaGreatDoor
open Go.ChangeShapes Go.WideShapes Go.ChangeAt Go.RowKit
theorem eR {w w':World} {gp gm:Nat} {d:Int} {r:PR} {e:Ending} (h:PXR w w' gp gm d r e):∃ v,e=.returned v:=by
 have h5:=h.2;cases r with
 | error c=>obtain ⟨v,wv,e,-⟩:=h5;exact ⟨v,e⟩
 | ok p=>obtain ⟨v,wv,e,-⟩:=h5;exact ⟨v,e⟩
theorem pl (gp gm:Nat) (rank:Int) (wv:Value) (ws:Ws) (d e:Int) (w:World) (h:PX w gp gm wv ws d e) (ht:tkS rank ws=none) :
  Calls Tryz.prog 166 #[.pointer (some ⟨gp,0,none⟩),.int .i64 rank] w fun r w'=>r=.returned (.tuple #[.agg #[.int .i64 0,.int .i64 0,.bool false,.bool false],.bool false])∧KeptB w w' (fun q=>q=gp)∧PX w' gp gm wv ws d e:=by
 refine (bn gp gm rank wv ws d e w h.ps).mono fun r w' h9=>?_
 unfold dL at h9;rw [ht] at h9;exact ⟨h9.1,h9.2.1,eS h h9.2.1 h9.2.2 (fun x hx=>hx)⟩
theorem px_signY (gp gm:Nat) (rank:Int) (wv:Value) (ws ws1:Ws) (s:Sg) (d e:Int) (w:World) (h:PX w gp gm wv ws d e) (ht:tkS rank ws=some (s,ws1)) :
  Calls Tryz.prog 166 #[.pointer (some ⟨gp,0,none⟩),.int .i64 rank] w fun r w'=>r=.returned (.tuple #[.agg #[.int .i64 s.rank,.int .i64 s.op,.bool s.turned,.bool s.denied],.bool true])∧KeptB w w' (fun q=>q=gp)∧∃ wv',PX w' gp gm wv' ws1 d e:=by
 refine (bn gp gm rank wv ws d e w h.ps).mono fun r w' h9=>?_
 unfold dL at h9;rw [ht] at h9;obtain ⟨h1,h2,wv',h3⟩:=h9;exact ⟨h1,h2,wv',eS h h2 h3 (iY ht)⟩
theorem qp {ws:Ws} (h:∀ x∈ws,WQ x):WQ (hdW ws):=by
 cases ws with
 | nil=>exact ⟨.inr rfl,by decide⟩
 | cons x r=>exact h x (List.mem_cons_self ..)
theorem lR {n:Nd} (h0:ar n.op=0) (h1:okN n=0):WfN [n]:=by
 refine ⟨by simp,by simp,[0],?_,rfl⟩;have hb:lz n []=some 0:=by unfold lz;rw [if_neg (by omega),if_neg (by omega)];rfl
 simpa using gO good_nil h1 hb
theorem leaf_wf {s:ByteArray} {n:Nd} (h:fS s=some n):WfN [n]:=by
 unfold fS at h;cases hf:qP s with
 | some i =>
  rw [hf] at h
  simp only at h
  cases h;have hi:i=0∨i=1∨i=2∨i=3:=by
   unfold qP at hf
   by_cases q0:s=wT
   ·rw [if_pos q0] at hf;cases hf;exact .inl rfl
   ·rw [if_neg q0] at hf
    by_cases q1:s=wK
    ·rw [if_pos q1] at hf;cases hf;exact .inr (.inl rfl)
    ·rw [if_neg q1] at hf
     by_cases q2:s=wA
     ·rw [if_pos q2] at hf;cases hf;exact .inr (.inr (.inl rfl))
     ·rw [if_neg q2] at hf
      by_cases q3:s=wB
      ·rw [if_pos q3] at hf;cases hf;exact .inr (.inr (.inr rfl))
      ·rw [if_neg q3] at hf;cases hf
  rcases hi with rfl | rfl | rfl | rfl <;> exact lR (by decide) (by decide)
 | none =>
  rw [hf] at h
  simp only at h
  by_cases q0:s=wNull
  ·rw [if_pos q0] at h;cases h;exact lR (by decide) (by decide)
  ·rw [if_neg q0] at h
   by_cases q1:s=wFalse
   ·rw [if_pos q1] at h;cases h;exact lR (by decide) (by decide)
   ·rw [if_neg q1] at h
    by_cases q2:s=wTrue
    ·rw [if_pos q2] at h;cases h;exact lR (by decide) (by decide)
    ·rw [if_neg q2] at h;cases hq:nO 1000000000 s with
     | none=>rw [hq] at h;cases h
     | some m =>
      rw [hq] at h;cases h;obtain ⟨-,hm⟩:=mf (by decide) hq;refine lR (show ar 1=0 by decide) ?_;unfold okN;rw [if_neg (by unfold lJ;simp [ar]),if_neg (by simp),if_pos (by unfold qQ;simp;omega)]
theorem unary_x (f gp gm:Nat) (wv:Value) (ws:Ws) (d:Nat) (hd:d≤12) (w:World) (h:PX w gp gm wv ws (d:Int) 0) (hT:lev (f+1) 6 ws d≠.error 99)
  (H1:∀ wv ws w (d:Nat),d≤12→PX w gp gm wv ws (d:Int) 0→lev f 6 ws d≠.error 99→Calls Tryz.prog 204 #[.pointer (some ⟨gp,0,none⟩)] w fun r w'=>PXR w w' gp gm (d:Int) (lev f 6 ws d) r)
  (H2:∀ wv ws w (d:Nat),d≤12→PX w gp gm wv ws (d:Int) 0→lev f 7 ws d≠.error 99→Calls Tryz.prog 208 #[.pointer (some ⟨gp,0,none⟩)] w fun r w'=>PXR w w' gp gm (d:Int) (lev f 7 ws d) r) :
  Calls Tryz.prog 204 #[.pointer (some ⟨gp,0,none⟩)] w fun r w'=>PXR w w' gp gm (d:Int) (lev (f+1) 6 ws d) r:=by
 cases ht:tk wMinus ws with
 | none =>
  have e:lev (f+1) 6 ws d=lev f 7 ws d:=by
   show (match tk wMinus ws with | some ws1=>aheadP 3 (deepP (fun ws d=>lev f 6 ws d) ws1 d) | none=>lev f 7 ws d)=_
   rw [ht]
  rw [e] at hT ⊢;have TK:=aa (fQ gp gm wMinus (by decide) wv ws (d:Int) 0 w h ht);have HH:=aa (fun w hp=>H2 wv ws w d hd hp hT);generalize lev f 7 ws d=T at *;clear h hT e ht H1 H2
  go_enter Tryz.func204,Tryz.ntmps204
  go_wp2_with fail;refine TK.out.mono ?_;rintro r w1 ⟨rfl,hk1,hp1⟩;have K1:=aa hk1;have AT:=aa (HH.out w1 hp1);clear hk1 hp1 TK HH;go_wp2_with fail;refine AT.out.mono ?_;intro r w2 h2;have F2:=aa (fk K1.out h2);obtain ⟨v,rfl⟩:=eR h2;clear h2 AT K1;go_wp2_with fail
  go_ret
  exact F2.out
 | some ws1 =>
  have e:lev (f+1) 6 ws d=aheadP 3 (deepP (fun ws d=>lev f 6 ws d) ws1 d):=by
   show (match tk wMinus ws with | some ws1=>aheadP 3 (deepP (fun ws d=>lev f 6 ws d) ws1 d) | none=>lev f 7 ws d)=_
   rw [ht]
  rw [e] at hT ⊢;have hT0:deepP (fun ws d=>lev f 6 ws d) ws1 d≠.error 99:=fun e9=>hT (by rw [e9];rfl)
  have TK:=aa (fV gp gm wMinus (by decide) wv ws ws1 (d:Int) 0 w h ht);have DE:=aa (fun wv w hp=>deeper_ps_unary (fun ws d=>lev f 6 ws d) gp gm wv ws1 d hd w hp hT0 (fun h12 w hp hne=>H1 wv ws1 w (d+1) (by omega) hp hne));generalize deepP (fun ws d=>lev f 6 ws d) ws1 d=T at *;have hap:∀ c,T=.error c→aheadP 3 T=.error c:=fun c e9=>by rw [e9];rfl
  have haq:∀ x ws2,T=.ok (x,ws2)→aheadP 3 T=wth ws2 (jn1 3 x):=fun x ws2 e9=>by rw [e9];rfl
  have HAP:=aa hap;have HAQ:=aa haq;generalize aheadP 3 T=TT at *;clear h hT e ht H1 H2 hT0 hap haq
  go_enter Tryz.func204,Tryz.ntmps204
  go_wp2_with fail;refine TK.out.mono ?_;rintro r w1 ⟨rfl,hk1,wv1,hp1⟩;have K1:=aa hk1;have DD:=aa (DE.out wv1 w1 hp1);clear hk1 hp1 TK DE;go_wp2_with fail;refine DD.out.mono ?_;rintro r w2 ⟨hk2,hr2⟩;have K2:=aa (af K1.out hk2);clear hk2 DD K1;cases T with
  | error c =>
   obtain ⟨v2,wv2,rfl,hc,hp2⟩:=hr2;have HC:=aa hc;have JE:=aa (il gp gm 3 v2 (.slice none 0 0) wv2 [] (d:Int) c hc.1 w2 hp2);clear hc hp2;go_wp2_with fail;refine JE.out.mono ?_;rintro r w3 ⟨rfl,hk3,hp3⟩;have K3:=aa (af K2.out hk3);have P3:=aa hp3;clear hk3 hp3 JE K2;go_wp2_with fail
   go_ret
   rw [HAP.out c rfl];exact cI K3.out ⟨HC.out.1,rfl⟩ P3.out
  | ok p =>
   obtain ⟨x,ws2⟩:=p;obtain ⟨v2,wv2,rfl,hn2,hp2⟩:=hr2;have JE:=aa (jb gp gm 3 (by decide) v2 wv2 x ws2 (d:Int) w2 hp2 hn2);clear hn2 hp2;go_wp2_with fail;refine JE.out.mono ?_;intro r w3 h3;have F3:=aa (fk K2.out h3);obtain ⟨v3,rfl⟩:=eR h3;clear h3 JE K2;go_wp2_with fail
   go_ret
   rw [HAQ.out x ws2 rfl];exact F3.out
theorem unary_e (gp gm:Nat) (wv:Value) (d e:Int) (w:World) (h:PX w gp gm wv [] d e)
  (H2:∀ wv w,PX w gp gm wv [] d e→Calls Tryz.prog 208 #[.pointer (some ⟨gp,0,none⟩)] w fun r w'=>ex w w' gp gm d e r) :
  Calls Tryz.prog 204 #[.pointer (some ⟨gp,0,none⟩)] w fun r w'=>ex w w' gp gm d e r:=by
 have TK:=aa (fQ gp gm wMinus (by decide) wv [] d e w h rfl);have HH:=aa H2;clear h H2
 go_enter Tryz.func204,Tryz.ntmps204
 go_wp2_with fail;refine TK.out.mono ?_;rintro r w1 ⟨rfl,hk1,hp1⟩;have K1:=aa hk1;have AT:=aa (HH.out wv w1 hp1);clear hk1 hp1 TK HH;go_wp2_with fail;refine AT.out.mono ?_;rintro r w2 ⟨hk2,v2,wv2,rfl,hs2,hp2⟩;have S2:=aa hs2;have K2:=aa (af K1.out hk2);have P2:=aa hp2;clear hk2 hp2 hs2 AT K1;go_wp2_with fail
 go_ret
 exact dP K2.out P2.out S2.out
theorem not_x (f gp gm:Nat) (wv:Value) (ws:Ws) (d:Nat) (hd:d≤12) (w:World) (h:PX w gp gm wv ws (d:Int) 0) (hT:lev (f+1) 2 ws d≠.error 99)
  (H1:∀ wv ws w (d:Nat),d≤12→PX w gp gm wv ws (d:Int) 0→lev f 2 ws d≠.error 99→Calls Tryz.prog 168 #[.pointer (some ⟨gp,0,none⟩)] w fun r w'=>PXR w w' gp gm (d:Int) (lev f 2 ws d) r)
  (H2:∀ wv ws w (d:Nat),d≤12→PX w gp gm wv ws (d:Int) 0→lev f 3 ws d≠.error 99→Calls Tryz.prog 181 #[.pointer (some ⟨gp,0,none⟩)] w fun r w'=>PXR w w' gp gm (d:Int) (lev f 3 ws d) r) :
  Calls Tryz.prog 168 #[.pointer (some ⟨gp,0,none⟩)] w fun r w'=>PXR w w' gp gm (d:Int) (lev (f+1) 2 ws d) r:=by
 cases ht:tk wNot ws with
 | none =>
  have e:lev (f+1) 2 ws d=lev f 3 ws d:=by
   show (match tk wNot ws with | some ws1=>aheadP 4 (deepP (fun ws d=>lev f 2 ws d) ws1 d) | none=>lev f 3 ws d)=_
   rw [ht]
  rw [e] at hT ⊢;have TK:=aa (fQ gp gm wNot (by decide) wv ws (d:Int) 0 w h ht);have HH:=aa (fun w hp=>H2 wv ws w d hd hp hT);generalize lev f 3 ws d=T at *;clear h hT e ht H1 H2
  go_enter Tryz.func168,Tryz.ntmps168
  go_wp2_with fail;refine TK.out.mono ?_;rintro r w1 ⟨rfl,hk1,hp1⟩;have K1:=aa hk1;have AT:=aa (HH.out w1 hp1);clear hk1 hp1 TK HH;go_wp2_with fail;refine AT.out.mono ?_;intro r w2 h2;have F2:=aa (fk K1.out h2);obtain ⟨v,rfl⟩:=eR h2;clear h2 AT K1;go_wp2_with fail
  go_ret
  exact F2.out
 | some ws1 =>
  have e:lev (f+1) 2 ws d=aheadP 4 (deepP (fun ws d=>lev f 2 ws d) ws1 d):=by
   show (match tk wNot ws with | some ws1=>aheadP 4 (deepP (fun ws d=>lev f 2 ws d) ws1 d) | none=>lev f 3 ws d)=_
   rw [ht]
  rw [e] at hT ⊢;have hT0:deepP (fun ws d=>lev f 2 ws d) ws1 d≠.error 99:=fun e9=>hT (by rw [e9];rfl)
  have TK:=aa (fV gp gm wNot (by decide) wv ws ws1 (d:Int) 0 w h ht);have DE:=aa (fun wv w hp=>deeper_ps_not (fun ws d=>lev f 2 ws d) gp gm wv ws1 d hd w hp hT0 (fun h12 w hp hne=>H1 wv ws1 w (d+1) (by omega) hp hne));generalize deepP (fun ws d=>lev f 2 ws d) ws1 d=T at *;have hap:∀ c,T=.error c→aheadP 4 T=.error c:=fun c e9=>by rw [e9];rfl
  have haq:∀ x ws2,T=.ok (x,ws2)→aheadP 4 T=wth ws2 (jn1 4 x):=fun x ws2 e9=>by rw [e9];rfl
  have HAP:=aa hap;have HAQ:=aa haq;generalize aheadP 4 T=TT at *;clear h hT e ht H1 H2 hT0 hap haq
  go_enter Tryz.func168,Tryz.ntmps168
  go_wp2_with fail;refine TK.out.mono ?_;rintro r w1 ⟨rfl,hk1,wv1,hp1⟩;have K1:=aa hk1;have DD:=aa (DE.out wv1 w1 hp1);clear hk1 hp1 TK DE;go_wp2_with fail;refine DD.out.mono ?_;rintro r w2 ⟨hk2,hr2⟩;have K2:=aa (af K1.out hk2);clear hk2 DD K1;cases T with
  | error c =>
   obtain ⟨v2,wv2,rfl,hc,hp2⟩:=hr2;have HC:=aa hc;have JE:=aa (il gp gm 4 v2 (.slice none 0 0) wv2 [] (d:Int) c hc.1 w2 hp2);clear hc hp2;go_wp2_with fail;refine JE.out.mono ?_;rintro r w3 ⟨rfl,hk3,hp3⟩;have K3:=aa (af K2.out hk3);have P3:=aa hp3;clear hk3 hp3 JE K2;go_wp2_with fail
   go_ret
   rw [HAP.out c rfl];exact cI K3.out ⟨HC.out.1,rfl⟩ P3.out
  | ok p =>
   obtain ⟨x,ws2⟩:=p;obtain ⟨v2,wv2,rfl,hn2,hp2⟩:=hr2;have JE:=aa (jb gp gm 4 (by decide) v2 wv2 x ws2 (d:Int) w2 hp2 hn2);clear hn2 hp2;go_wp2_with fail;refine JE.out.mono ?_;intro r w3 h3;have F3:=aa (fk K2.out h3);obtain ⟨v3,rfl⟩:=eR h3;clear h3 JE K2;go_wp2_with fail
   go_ret
   rw [HAQ.out x ws2 rfl];exact F3.out
theorem not_e (gp gm:Nat) (wv:Value) (d e:Int) (w:World) (h:PX w gp gm wv [] d e)
  (H2:∀ wv w,PX w gp gm wv [] d e→Calls Tryz.prog 181 #[.pointer (some ⟨gp,0,none⟩)] w fun r w'=>ex w w' gp gm d e r) :
  Calls Tryz.prog 168 #[.pointer (some ⟨gp,0,none⟩)] w fun r w'=>ex w w' gp gm d e r:=by
 have TK:=aa (fQ gp gm wNot (by decide) wv [] d e w h rfl);have HH:=aa H2;clear h H2
 go_enter Tryz.func168,Tryz.ntmps168
 go_wp2_with fail;refine TK.out.mono ?_;rintro r w1 ⟨rfl,hk1,hp1⟩;have K1:=aa hk1;have AT:=aa (HH.out wv w1 hp1);clear hk1 hp1 TK HH;go_wp2_with fail;refine AT.out.mono ?_;rintro r w2 ⟨hk2,v2,wv2,rfl,hs2,hp2⟩;have S2:=aa hs2;have K2:=aa (af K1.out hk2);have P2:=aa hp2;clear hk2 hp2 hs2 AT K1;go_wp2_with fail
 go_ret
 exact dP K2.out P2.out S2.out
theorem expr_x (f gp gm:Nat) (wv:Value) (ws:Ws) (d:Nat) (hd:d≤12) (w:World) (h:PX w gp gm wv ws (d:Int) 0) (hT:lev (f+1) 0 ws d≠.error 99)
  (H2:∀ wv ws w (d:Nat),d≤12→PX w gp gm wv ws (d:Int) 0→lev f 1 ws d≠.error 99→Calls Tryz.prog 150 #[.pointer (some ⟨gp,0,none⟩)] w fun r w'=>PXR w w' gp gm (d:Int) (lev f 1 ws d) r)
  (H3:∀ wv e w (d:Int),e≠0→PX w gp gm wv [] d e→Calls Tryz.prog 150 #[.pointer (some ⟨gp,0,none⟩)] w fun r w'=>ex w w' gp gm d e r)
  (H4:∀ ws y ws2,lev f 1 ws d=.ok (y,ws2)→ws2.length≤ws.length) :
  Calls Tryz.prog 110 #[.pointer (some ⟨gp,0,none⟩)] w fun r w'=>PXR w w' gp gm (d:Int) (lev (f+1) 0 ws d) r:=by
 have e:lev (f+1) 0 ws d=rowP (fun ws=>lev f 1 ws d) 0 f ws:=rfl;rw [e] at hT ⊢;have RW:=aa (row_ps_and (fun ws=>lev f 1 ws d) gp gm (d:Int) 0 (fun wv ws w hp hne=>H2 wv ws w d hd hp hne) (fun wv e w he hp=>H3 wv e w (d:Int) he hp) H4 f wv ws w h hT);generalize rowP (fun ws=>lev f 1 ws d) 0 f ws=T at *;clear h hT e H2 H3 H4
 go_enter Tryz.func110,Tryz.ntmps110
 go_wp2_with fail;refine RW.out.mono ?_;intro r w1 h1;have F1:=aa h1;obtain ⟨v,rfl⟩:=eR h1;clear h1 RW;go_wp2_with fail
 go_ret
 exact F1.out
theorem expr_e (gp gm:Nat) (wv:Value) (d e:Int) (he:e≠0) (w:World) (h:PX w gp gm wv [] d e)
  (H2:∀ wv w,PX w gp gm wv [] d e→Calls Tryz.prog 150 #[.pointer (some ⟨gp,0,none⟩)] w fun r w'=>ex w w' gp gm d e r) :
  Calls Tryz.prog 110 #[.pointer (some ⟨gp,0,none⟩)] w fun r w'=>ex w w' gp gm d e r:=by
 have RW:=aa (rowErr_ps_and gp gm d e 0 he H2 wv w h);clear h H2 he
 go_enter Tryz.func110,Tryz.ntmps110
 go_wp2_with fail;refine RW.out.mono ?_;rintro r w1 ⟨hk1,v1,wv1,rfl,hs1,hp1⟩;have S1:=aa hs1;have K1:=aa hk1;have P1:=aa hp1;clear hk1 hp1 hs1 RW;go_wp2_with fail
 go_ret
 exact dP K1.out P1.out S1.out
theorem and_x (f gp gm:Nat) (wv:Value) (ws:Ws) (d:Nat) (hd:d≤12) (w:World) (h:PX w gp gm wv ws (d:Int) 0) (hT:lev (f+1) 1 ws d≠.error 99)
  (H2:∀ wv ws w (d:Nat),d≤12→PX w gp gm wv ws (d:Int) 0→lev f 2 ws d≠.error 99→Calls Tryz.prog 168 #[.pointer (some ⟨gp,0,none⟩)] w fun r w'=>PXR w w' gp gm (d:Int) (lev f 2 ws d) r)
  (H3:∀ wv e w (d:Int),e≠0→PX w gp gm wv [] d e→Calls Tryz.prog 168 #[.pointer (some ⟨gp,0,none⟩)] w fun r w'=>ex w w' gp gm d e r)
  (H4:∀ ws y ws2,lev f 2 ws d=.ok (y,ws2)→ws2.length≤ws.length) :
  Calls Tryz.prog 150 #[.pointer (some ⟨gp,0,none⟩)] w fun r w'=>PXR w w' gp gm (d:Int) (lev (f+1) 1 ws d) r:=by
 have e:lev (f+1) 1 ws d=rowP (fun ws=>lev f 2 ws d) 1 f ws:=rfl;rw [e] at hT ⊢;have RW:=aa (row_ps_not (fun ws=>lev f 2 ws d) gp gm (d:Int) 1 (fun wv ws w hp hne=>H2 wv ws w d hd hp hne) (fun wv e w he hp=>H3 wv e w (d:Int) he hp) H4 f wv ws w h hT);generalize rowP (fun ws=>lev f 2 ws d) 1 f ws=T at *;clear h hT e H2 H3 H4
 go_enter Tryz.func150,Tryz.ntmps150
 go_wp2_with fail;refine RW.out.mono ?_;intro r w1 h1;have F1:=aa h1;obtain ⟨v,rfl⟩:=eR h1;clear h1 RW;go_wp2_with fail
 go_ret
 exact F1.out
theorem and_e (gp gm:Nat) (wv:Value) (d e:Int) (he:e≠0) (w:World) (h:PX w gp gm wv [] d e)
  (H2:∀ wv w,PX w gp gm wv [] d e→Calls Tryz.prog 168 #[.pointer (some ⟨gp,0,none⟩)] w fun r w'=>ex w w' gp gm d e r) :
  Calls Tryz.prog 150 #[.pointer (some ⟨gp,0,none⟩)] w fun r w'=>ex w w' gp gm d e r:=by
 have RW:=aa (rowErr_ps_not gp gm d e 1 he H2 wv w h);clear h H2 he
 go_enter Tryz.func150,Tryz.ntmps150
 go_wp2_with fail;refine RW.out.mono ?_;rintro r w1 ⟨hk1,v1,wv1,rfl,hs1,hp1⟩;have S1:=aa hs1;have K1:=aa hk1;have P1:=aa hp1;clear hk1 hp1 hs1 RW;go_wp2_with fail
 go_ret
 exact dP K1.out P1.out S1.out
theorem sum_x (f gp gm:Nat) (wv:Value) (ws:Ws) (d:Nat) (hd:d≤12) (w:World) (h:PX w gp gm wv ws (d:Int) 0) (hT:lev (f+1) 4 ws d≠.error 99)
  (H2:∀ wv ws w (d:Nat),d≤12→PX w gp gm wv ws (d:Int) 0→lev f 5 ws d≠.error 99→Calls Tryz.prog 199 #[.pointer (some ⟨gp,0,none⟩)] w fun r w'=>PXR w w' gp gm (d:Int) (lev f 5 ws d) r)
  (H3:∀ wv e w (d:Int),e≠0→PX w gp gm wv [] d e→Calls Tryz.prog 199 #[.pointer (some ⟨gp,0,none⟩)] w fun r w'=>ex w w' gp gm d e r)
  (H4:∀ ws y ws2,lev f 5 ws d=.ok (y,ws2)→ws2.length≤ws.length) :
  Calls Tryz.prog 191 #[.pointer (some ⟨gp,0,none⟩)] w fun r w'=>PXR w w' gp gm (d:Int) (lev (f+1) 4 ws d) r:=by
 have e:lev (f+1) 4 ws d=rowP (fun ws=>lev f 5 ws d) 3 f ws:=rfl;rw [e] at hT ⊢;have RW:=aa (row_ps_product (fun ws=>lev f 5 ws d) gp gm (d:Int) 3 (fun wv ws w hp hne=>H2 wv ws w d hd hp hne) (fun wv e w he hp=>H3 wv e w (d:Int) he hp) H4 f wv ws w h hT);generalize rowP (fun ws=>lev f 5 ws d) 3 f ws=T at *;clear h hT e H2 H3 H4
 go_enter Tryz.func191,Tryz.ntmps191
 go_wp2_with fail;refine RW.out.mono ?_;intro r w1 h1;have F1:=aa h1;obtain ⟨v,rfl⟩:=eR h1;clear h1 RW;go_wp2_with fail
 go_ret
 exact F1.out
theorem sum_e (gp gm:Nat) (wv:Value) (d e:Int) (he:e≠0) (w:World) (h:PX w gp gm wv [] d e)
  (H2:∀ wv w,PX w gp gm wv [] d e→Calls Tryz.prog 199 #[.pointer (some ⟨gp,0,none⟩)] w fun r w'=>ex w w' gp gm d e r) :
  Calls Tryz.prog 191 #[.pointer (some ⟨gp,0,none⟩)] w fun r w'=>ex w w' gp gm d e r:=by
 have RW:=aa (rowErr_ps_product gp gm d e 3 he H2 wv w h);clear h H2 he
 go_enter Tryz.func191,Tryz.ntmps191
 go_wp2_with fail;refine RW.out.mono ?_;rintro r w1 ⟨hk1,v1,wv1,rfl,hs1,hp1⟩;have S1:=aa hs1;have K1:=aa hk1;have P1:=aa hp1;clear hk1 hp1 hs1 RW;go_wp2_with fail
 go_ret
 exact dP K1.out P1.out S1.out
theorem product_x (f gp gm:Nat) (wv:Value) (ws:Ws) (d:Nat) (hd:d≤12) (w:World) (h:PX w gp gm wv ws (d:Int) 0) (hT:lev (f+1) 5 ws d≠.error 99)
  (H2:∀ wv ws w (d:Nat),d≤12→PX w gp gm wv ws (d:Int) 0→lev f 6 ws d≠.error 99→Calls Tryz.prog 204 #[.pointer (some ⟨gp,0,none⟩)] w fun r w'=>PXR w w' gp gm (d:Int) (lev f 6 ws d) r)
  (H3:∀ wv e w (d:Int),e≠0→PX w gp gm wv [] d e→Calls Tryz.prog 204 #[.pointer (some ⟨gp,0,none⟩)] w fun r w'=>ex w w' gp gm d e r)
  (H4:∀ ws y ws2,lev f 6 ws d=.ok (y,ws2)→ws2.length≤ws.length) :
  Calls Tryz.prog 199 #[.pointer (some ⟨gp,0,none⟩)] w fun r w'=>PXR w w' gp gm (d:Int) (lev (f+1) 5 ws d) r:=by
 have e:lev (f+1) 5 ws d=rowP (fun ws=>lev f 6 ws d) 4 f ws:=rfl;rw [e] at hT ⊢;have RW:=aa (row_ps_unary (fun ws=>lev f 6 ws d) gp gm (d:Int) 4 (fun wv ws w hp hne=>H2 wv ws w d hd hp hne) (fun wv e w he hp=>H3 wv e w (d:Int) he hp) H4 f wv ws w h hT);generalize rowP (fun ws=>lev f 6 ws d) 4 f ws=T at *;clear h hT e H2 H3 H4
 go_enter Tryz.func199,Tryz.ntmps199
 go_wp2_with fail;refine RW.out.mono ?_;intro r w1 h1;have F1:=aa h1;obtain ⟨v,rfl⟩:=eR h1;clear h1 RW;go_wp2_with fail
 go_ret
 exact F1.out
theorem product_e (gp gm:Nat) (wv:Value) (d e:Int) (he:e≠0) (w:World) (h:PX w gp gm wv [] d e)
  (H2:∀ wv w,PX w gp gm wv [] d e→Calls Tryz.prog 204 #[.pointer (some ⟨gp,0,none⟩)] w fun r w'=>ex w w' gp gm d e r) :
  Calls Tryz.prog 199 #[.pointer (some ⟨gp,0,none⟩)] w fun r w'=>ex w w' gp gm d e r:=by
 have RW:=aa (rowErr_ps_unary gp gm d e 4 he H2 wv w h);clear h H2 he
 go_enter Tryz.func199,Tryz.ntmps199
 go_wp2_with fail;refine RW.out.mono ?_;rintro r w1 ⟨hk1,v1,wv1,rfl,hs1,hp1⟩;have S1:=aa hs1;have K1:=aa hk1;have P1:=aa hp1;clear hk1 hp1 hs1 RW;go_wp2_with fail
 go_ret
 exact dP K1.out P1.out S1.out
end Go.Proofs.YtcgjflamgnjhcaaGreatDoor
namespace Go.Proofs.YtcgjflamgnjhcaaGreatDoor
open Go.ChangeShapes Go.WideShapes Go.ChangeAt Go.RowKit Go.Great
theorem kI (gp gm:Nat) (wv:Value) (ws:Ws) (d e:Int) (w:World) (h:PX w gp gm wv ws d e) :
  Calls Tryz.prog 147 #[.pointer (some ⟨gp,0,none⟩)] w fun r w'=>r=.returned (.string (hdW ws))∧KeptB w w' (fun q=>q=gp)∧PX w' gp gm wv ws d e :=
 (iK gp gm wv ws d e w h.ps).mono fun r w' ⟨h1,h2⟩=>⟨h1,ae h2,aP h h2⟩
theorem pm (gp gm:Nat) (wv:Value) (ws:Ws) (d e:Int) (w:World) (h:PX w gp gm wv ws d e) :
  Calls Tryz.prog 210 #[.string (hdW ws)] w fun r w'=>r=.returned (.tuple #[fT (dt (hdW ws)).1,.bool (dt (hdW ws)).2])∧KeptB w w' (fun q=>q=gp)∧PX w' gp gm wv ws d e :=
 (leaf_any (hdW ws) (qp h.wq) w h.tq).mono fun r w' ⟨h1,h2⟩=>⟨h1,ae h2,aP h h2⟩
theorem px_leafN (gp gm:Nat) (wv:Value) (ws:Ws) (d e:Int) (w:World) (h:PX w gp gm wv ws d e) (hl:dt (hdW ws)=(nd0,false)) :
  Calls Tryz.prog 210 #[.string (hdW ws)] w fun r w'=>r=.returned (.tuple #[.agg #[.int .i64 0,.int .i64 0,.int .i64 0,.int .i64 0,.int .i64 0,.int .i64 0],.bool false])∧KeptB w w' (fun q=>q=gp)∧PX w' gp gm wv ws d e:=by
 have h9:=pm gp gm wv ws d e w h;rw [hl] at h9;exact h9
theorem px_leafY (gp gm:Nat) (wv:Value) (x:ByteArray) (ws:Ws) (n:Nd) (d e:Int) (w:World) (h:PX w gp gm wv (x :: ws) d e) (hl:dt x=(n,true)) :
  Calls Tryz.prog 210 #[.string x] w fun r w'=>r=.returned (.tuple #[.agg #[.int .i64 n.op,.int .i64 n.x,.int .i64 n.y,.int .i64 n.n,.int .i64 n.k,.int .i64 n.v],.bool true])∧KeptB w w' (fun q=>q=gp)∧PX w' gp gm wv (x :: ws) d e:=by
 have h9:=pm gp gm wv (x :: ws) d e w h;rw [show hdW (x :: ws)=x from rfl,hl] at h9;exact h9
theorem le (gp gm:Nat) (wv:Value) (ws:Ws) (d e:Int) (w:World) (h:PX w gp gm wv ws d e) :
  Calls Tryz.prog 112 #[.pointer (some ⟨gp,0,none⟩),.iface 93 (.int .i64 4)] w fun r w'=>r=.returned (.tuple #[])∧KeptB w w' (fun q=>q=gp)∧PX w' gp gm (.slice none 0 0) [] d (pi e 4) :=
 (fI gp gm 4 (by decide) wv ws d e w h.ps).mono fun r w' ⟨h1,h2,h3⟩=>⟨h1,h2,cH h h2 h3⟩
theorem py (gp gm:Nat) (wv:Value) (x:ByteArray) (ws:Ws) (d e:Int) (w:World) (h:PX w gp gm wv (x :: ws) d e) :
  Calls Tryz.prog 148 #[.pointer (some ⟨gp,0,none⟩)] w fun r w'=>r=.returned (.tuple #[])∧KeptB w w' (fun q=>q=gp)∧∃ wv',PX w' gp gm wv' ws d e :=
 (ki gp gm wv x ws d e w h.ps).mono fun r w' ⟨h1,h2,wv',h3⟩=>⟨h1,h2,wv',eS h h2 h3 (fun y hy=>List.mem_cons_of_mem _ hy)⟩
theorem atom_open (gp gm:Nat) (wv:Value) (ws ws1:Ws) (d:Int) (w:World) (h:PX w gp gm wv ws d 0) (ht:tk wOpen ws=some ws1) (T:PR)
  (DEW:∀ wv w,PX w gp gm wv ws1 d 0→Calls Tryz.prog 180 #[.pointer (some ⟨gp,0,none⟩),.func (.func 110) #[.pointer (some ⟨gp,0,none⟩)] #[]] w fun r w'=>PXR w w' gp gm d T r) :
  Calls Tryz.prog 208 #[.pointer (some ⟨gp,0,none⟩)] w fun r w'=>PXR w w' gp gm d (eu T) r:=by
 have TK:=aa (fV gp gm wOpen (by decide) wv ws ws1 d 0 w h ht);have DE:=aa DEW;have hlo:=h.ps.bd.lt;clear h ht DEW hlo
 go_enter Tryz.func208,Tryz.ntmps208
 go_wp2_with fail;refine TK.out.mono ?_;rintro r w1 ⟨rfl,hk1,wv1,hp1⟩;have K1:=aa hk1;have DD:=aa (DE.out wv1 w1 hp1);clear hk1 hp1 TK DE;go_wp2_with fail;refine DD.out.mono ?_;rintro r w2 ⟨hk2,hr2⟩;have K2:=aa (af K1.out hk2);clear hk2 DD K1;cases T with
 | error c =>
  obtain ⟨v2,wv2,rfl,hc,hp2⟩:=hr2;have HC:=aa hc;have MU:=aa (fG gp gm wClose (by decide) wv2 [] d c w2 hp2 rfl);rw [hH hc.1] at MU;clear hc hp2;go_wp2_with fail;refine MU.out.mono ?_;rintro r w3 ⟨rfl,hk3,wv3,hp3⟩;have K3:=aa (af K2.out hk3);have P3:=aa hp3;clear hk3 hp3 MU K2;go_wp2_with fail
  go_ret
  exact cI K3.out HC.out P3.out
 | ok p =>
  obtain ⟨x,ws2⟩:=p;obtain ⟨v2,wv2,rfl,hn2,hp2⟩:=hr2;cases hcl:tk wClose ws2 with
  | none =>
   have e9:eu (.ok (x,ws2))=.error 4:=by unfold eu;simp only [hcl]
   have E9:=aa e9;have MU:=aa (fG gp gm wClose (by decide) wv2 ws2 d 0 w2 hp2 hcl);rw [mJ] at MU;have N2:=aa hn2;clear hn2 hp2 hcl e9;go_wp2_with fail;refine MU.out.mono ?_;rintro r w3 ⟨rfl,hk3,wv3,hp3⟩;have K3:=aa (af K2.out hk3);have P3:=aa hp3;clear hk3 hp3 MU K2;go_wp2_with fail
   go_ret
   rw [E9.out];exact cI K3.out ⟨by decide,N2.out.sl⟩ P3.out
  | some ws3 =>
   have e9:eu (.ok (x,ws2))=.ok (x,ws3):=by unfold eu;simp only [hcl]
   have E9:=aa e9;have MU:=aa (iJ gp gm wClose (by decide) wv2 ws2 ws3 d 0 w2 hp2 hcl);have N2:=aa hn2;clear hn2 hp2 hcl e9;go_wp2_with fail;refine MU.out.mono ?_;rintro r w3 ⟨rfl,hk3,wv3,hp3⟩;have N3:=aa (aV N2.out hk3 (fun q e9=>by omega));have K3:=aa (af K2.out hk3);have P3:=aa hp3;clear hk3 hp3 MU K2 N2;go_wp2_with fail
   go_ret
   rw [E9.out];exact mR K3.out N3.out P3.out
theorem leaf_none {ws:Ws} (h:dt (hdW ws)=(nd0,false)):leafP ws=.error 4:=by
 cases ws with
 | nil=>rfl
 | cons x r =>
  have h5:dt x=(nd0,false):=h;unfold dt at h5;cases hl:fS x with
  | none=>simp only [leafP,hl]
  | some n=>rw [hl] at h5;simp at h5
theorem lT {x:ByteArray} {r:Ws} {n:Nd} (h:fS x=some n):leafP (x :: r)=.ok ([n],r)∧dt x=(n,true):=by
 refine ⟨?_,by unfold dt;rw [h]⟩;simp only [leafP,h]
theorem leafB_or (ws:Ws):dt (hdW ws)=(nd0,false)∨∃ x r n,ws=x :: r∧fS x=some n:=by
 cases ws with
 | nil=>exact .inl rfl
 | cons x r =>
  cases hl:fS x with
  | none=>exact .inl (by show dt x=_;unfold dt;rw [hl])
  | some n=>exact .inr ⟨x,r,n,rfl,hl⟩
theorem mX (gp gm:Nat) (wv:Value) (ws:Ws) (d e:Int) (w:World) (h:PX w gp gm wv ws d e) (ht:tk wOpen ws=none) (hl:dt (hdW ws)=(nd0,false)) :
  Calls Tryz.prog 208 #[.pointer (some ⟨gp,0,none⟩)] w fun r w'=>r=.returned (.slice none 0 0)∧KeptB w w' (fun q=>q=gp)∧PX w' gp gm (.slice none 0 0) [] d (pi e 4):=by
 have TK:=aa (fQ gp gm wOpen (by decide) wv ws d e w h ht);have NX:=aa (fun w hp=>kI gp gm wv ws d e w hp);have LF:=aa (fun w hp=>px_leafN gp gm wv ws d e w hp hl);have FL:=aa (fun w hp=>le gp gm wv ws d e w hp);clear h ht hl
 go_enter Tryz.func208,Tryz.ntmps208
 go_wp2_with fail;refine TK.out.mono ?_;rintro r w1 ⟨rfl,hk1,hp1⟩;have K1:=aa hk1;have N1:=aa (NX.out w1 hp1);clear hk1 hp1 TK NX;go_wp2_with fail;refine N1.out.mono ?_;rintro r w2 ⟨rfl,hk2,hp2⟩;have K2:=aa (af K1.out hk2);have L2:=aa (LF.out w2 hp2);clear hk2 hp2 N1 K1 LF;go_wp2_with fail;refine L2.out.mono ?_;rintro r w3 ⟨rfl,hk3,hp3⟩;have ba:=aj w3 (.cells #[.int .i64 0,.int .i64 0,.int .i64 0,.int .i64 0,.int .i64 0,.int .i64 0] 153);have K3:=aa (af K2.out (af hk3 (ae ba)));have F3:=aa (FL.out _ (aP hp3 ba));clear hk3 hp3 L2 K2 FL ba;go_wp2_with fail;refine F3.out.mono ?_;rintro r w4 ⟨rfl,hk4,hp4⟩;have K4:=aa (af K3.out hk4);have P4:=aa hp4;clear hk4 hp4 F3 K3;go_wp2_with fail
 go_ret
 exact ⟨rfl,K4.out,P4.out⟩
theorem new_six (w:World) (n:Nd):∀ j u,([.int .i64 n.op,.int .i64 n.x,.int .i64 n.y,.int .i64 n.n,.int .i64 n.k,.int .i64 n.v]:List Value)[j]?=some u→(w.alloc (.cells #[.int .i64 n.op,.int .i64 n.x,.int .i64 n.y,.int .i64 n.n,.int .i64 n.k,.int .i64 n.v] 153)).cell? ⟨w.heap.size,j,none⟩=some u:=by
 intro j u h;have h9:=cN w (.int .i64 n.op) (.int .i64 n.x) (.int .i64 n.y) (.int .i64 n.n) (.int .i64 n.k) (.int .i64 n.v) 153 j u h;rw [show (⟨w.heap.size,j,none⟩:Addr)=(⟨w.heap.size,0,none⟩:Addr).add j from by simp [Addr.add]];exact h9
theorem nds_one {w:World} {B:Nat} (n:Nd) (hB:B≤w.heap.size) (hw:WfN [n]):NdsR (w.alloc (.cells #[.int .i64 n.op,.int .i64 n.x,.int .i64 n.y,.int .i64 n.n,.int .i64 n.k,.int .i64 n.v] 153)) B (.slice (some ⟨w.heap.size,0,none⟩) 1 1) [n] :=
 ⟨World.ownsRow_lit (base:=B) (size:=6) (e:=153) w #[.int .i64 n.op,.int .i64 n.x,.int .i64 n.y,.int .i64 n.n,.int .i64 n.k,.int .i64 n.v] 1 hB (by decide) rfl,hw⟩
theorem atom_leaf (gp gm:Nat) (wv:Value) (x:ByteArray) (ws:Ws) (n:Nd) (d:Int) (w:World) (h:PX w gp gm wv (x :: ws) d 0) (ht:tk wOpen (x :: ws)=none) (hl:fS x=some n) :
  Calls Tryz.prog 208 #[.pointer (some ⟨gp,0,none⟩)] w fun r w'=>PXR w w' gp gm d (.ok ([n],ws)) r:=by
 have TK:=aa (fQ gp gm wOpen (by decide) wv (x :: ws) d 0 w h ht);have NX:=aa (fun w hp=>kI gp gm wv (x :: ws) d 0 w hp);have e9:hdW (x :: ws)=x:=rfl;rw [e9] at NX;have LF:=aa (fun w hp=>px_leafY gp gm wv x ws n d 0 w hp (lT (r:=ws) hl).2);have SK:=aa (fun w hp=>py gp gm wv x ws d 0 w hp);have WN:=aa (leaf_wf hl);obtain ⟨i0,hi0,hz0,hz1,hz2⟩:=info_parts infoN;clear h ht hl e9
 go_enter Tryz.func208,Tryz.ntmps208
 go_wp2_with fail;refine TK.out.mono ?_;rintro r w1 ⟨rfl,hk1,hp1⟩;have K1:=aa hk1;have N1:=aa (NX.out w1 hp1);clear hk1 hp1 TK NX;go_wp2_with fail;refine N1.out.mono ?_;rintro r w2 ⟨rfl,hk2,hp2⟩;have K2:=aa (af K1.out hk2);have L2:=aa (LF.out w2 hp2);clear hk2 hp2 N1 K1 LF;go_wp2_with fail;refine L2.out.mono ?_;rintro r w3 ⟨rfl,hk3,hp3⟩;have ba:=aj w3 (.cells #[.int .i64 n.op,.int .i64 n.x,.int .i64 n.y,.int .i64 n.n,.int .i64 n.k,.int .i64 n.v] 153);have K3:=aa (af K2.out (af hk3 (ae ba)));have S3:=aa (SK.out _ (aP hp3 ba));have hlt3:=hp3.ps.bd.lt;have cs3:=new_six w3 n;have CS3:=aa cs3;clear hk3 hp3 L2 K2 SK ba cs3;go_wp2_with fail;refine S3.out.mono ?_;rintro r w4 ⟨rfl,hk4,wv4,hp4⟩;have K4:=aa (af K3.out hk4);have P4:=aa hp4;have y0:=(aC hk4 (g:=w3.heap.size) 0 (by simp) (by omega)).trans (CS3.out 0 _ rfl);have y1:=(aC hk4 (g:=w3.heap.size) 1 (by simp) (by omega)).trans (CS3.out 1 _ rfl);have y2:=(aC hk4 (g:=w3.heap.size) 2 (by simp) (by omega)).trans (CS3.out 2 _ rfl);have y3:=(aC hk4 (g:=w3.heap.size) 3 (by simp) (by omega)).trans (CS3.out 3 _ rfl);have y4:=(aC hk4 (g:=w3.heap.size) 4 (by simp) (by omega)).trans (CS3.out 4 _ rfl);have y5:=(aC hk4 (g:=w3.heap.size) 5 (by simp) (by omega)).trans (CS3.out 5 _ rfl);clear hk4 hp4 S3 K3 CS3
 go_wp2_with (refine wpList_buildOneN rfl 26 153 _ rfl [.int .i64 n.op,.int .i64 n.x,.int .i64 n.y,.int .i64 n.n,.int .i64 n.k,.int .i64 n.v] 6 rfl i0 _ Tryz.underlying26 hi0 hz0 hz2 rfl (by omega) (by omega) ?_)
 go_ret
 have ba:=aj w4 (.cells #[.int .i64 n.op,.int .i64 n.x,.int .i64 n.y,.int .i64 n.n,.int .i64 n.k,.int .i64 n.v] 153);exact mR (af K4.out (ae ba)) (nds_one n P4.out.ps.bd.lt WN.out) (aP P4.out ba)
theorem atom_x (f gp gm:Nat) (wv:Value) (ws:Ws) (d:Nat) (hd:d≤12) (w:World) (h:PX w gp gm wv ws (d:Int) 0) (hT:lev (f+1) 7 ws d≠.error 99)
  (H1:∀ wv ws w (d:Nat),d≤12→PX w gp gm wv ws (d:Int) 0→lev f 0 ws d≠.error 99→Calls Tryz.prog 110 #[.pointer (some ⟨gp,0,none⟩)] w fun r w'=>PXR w w' gp gm (d:Int) (lev f 0 ws d) r) :
  Calls Tryz.prog 208 #[.pointer (some ⟨gp,0,none⟩)] w fun r w'=>PXR w w' gp gm (d:Int) (lev (f+1) 7 ws d) r:=by
 have e:lev (f+1) 7 ws d=(match tk wOpen ws with | some ws1=>eu (deepP (fun ws d=>lev f 0 ws d) ws1 d) | none=>leafP ws):=rfl;rw [e] at hT ⊢;cases ht:tk wOpen ws with
 | some ws1 =>
  rw [ht] at hT;have hT0:deepP (fun ws d=>lev f 0 ws d) ws1 d≠.error 99:=fun e9=>hT (by show eu _=_;rw [e9];rfl)
  exact atom_open gp gm wv ws ws1 d w h ht _ (fun wv w hp=>deeper_ps_expr (fun ws d=>lev f 0 ws d) gp gm wv ws1 d hd w hp hT0 (fun h12 w hp hne=>H1 wv ws1 w (d+1) (by omega) hp hne))
 | none =>
  show Calls _ _ _ _ fun r w'=>PXR w w' gp gm (d:Int) (leafP ws) r
  rcases leafB_or ws with hl | ⟨x,r,n,rfl,hl⟩
  ·rw [leaf_none hl];refine (mX gp gm wv ws d 0 w h ht hl).mono ?_;rintro r w1 ⟨rfl,hk,hp⟩;exact cI hk ⟨by decide,rfl⟩ hp
  ·rw [(lT (r:=r) hl).1];exact atom_leaf gp gm wv x r n d w h ht hl
theorem atom_e (gp gm:Nat) (wv:Value) (d e:Int) (he:e≠0) (w:World) (h:PX w gp gm wv [] d e) :
  Calls Tryz.prog 208 #[.pointer (some ⟨gp,0,none⟩)] w fun r w'=>ex w w' gp gm d e r:=by
 refine (mX gp gm wv [] d e w h rfl rfl).mono ?_;rintro r w1 ⟨rfl,hk,hp⟩;rw [hH he] at hp;exact dP hk hp
end Go.Proofs.YtcgjflamgnjhcaaGreatDoor

/- Own texts in one. Conditions: as named in each. -/
import Derived.Test.YtcgjflamgnjhcaaGreatDoorPrsJ
set_option linter.unusedVariables false
set_option linter.unusedSimpArgs false
set_option maxRecDepth 100000
set_option maxHeartbeats 8000000
namespace Go.Proofs.YtcgjflamgnjhcaaGreatDoor
open Go.ChangeShapes Go.WideShapes Go.ChangeAt Go.RowKit
theorem qOpt8 (Q:Exit→Act→World→Prop) (C8:Code) (h8:rgn 8 (Tryz.f70.body.getD .skip)=some C8) (C9:Code) (h9:rgn 9 (Tryz.f70.body.getD .skip)=some C9) (t:List Value) (gp gm gr gq:Nat) (st:St) (va vw vb:Value) (q:Qy) (W w:World) (hw0:vw=.slice none 0 0) (hq0:q.wh=[]) (ht:t.length=71) (k0:t[0]?=some (.pointer (some ⟨gp,0,none⟩))) (k2:t[2]?=some (.pointer (some ⟨gr,0,none⟩))) (k3:t[3]?=some (.pointer (some ⟨gq,0,none⟩)))
  (h:QS W w gp gm gr gq st va vw vb q)
  (hQ:∀ (t':List Value) (vw':Value) (w':World),t'.length=71→t'[0]?=some (.pointer (some ⟨gp,0,none⟩))→t'[2]?=some (.pointer (some ⟨gr,0,none⟩))→t'[3]?=some (.pointer (some ⟨gq,0,none⟩))→QS W w' gp gm gr gq (eD st).2 va vw' vb { q with wh:=(eD st).1 }→Q .normal { tmps:=t'.toArray,defers:=[] } w') :
  Code.wp Tryz.prog (.seq C8 (.cond (.tmp 27) C9 .skip)) Q { tmps:=t.toArray,defers:=[] } w:=by
 have HQ:=aa hQ;have H:=aa h;clear hQ h;have TK:=fA gp gm wWhere (by decide) st w H.out.ps;subst hw0;obtain ⟨f,hf,hi⟩:=listed t ht;have e0:=aq (hi 0 (by decide)) k0;have e2:=aq (hi 2 (by decide)) k2;have e3:=aq (hi 3 (by decide)) k3;rw [e0,e2,e3] at hf;clear hi ht k0 e0 k2 e2 k3 e3;subst hf;unfold Tryz.f70 at h8
 simp [rgn] at h8
 subst h8;unfold Tryz.f70 at h9
 simp [rgn] at h9
 subst h9;cases hb:(b7 wWhere st).1 with
 | false =>
  rw [hb,dB hb] at TK;have TKH:=aa TK;have EV:=aa (show eD st=([],st) by unfold eD;rw [hb,dB hb];rfl);clear TK hb;go_wp2_with fail;refine TKH.out.mono ?_;rintro r w1 ⟨rfl,hk,hp⟩;have H1:=aa (bw H.out hk hp id);clear hk hp TKH H;go_wp2_with fail;refine HQ.out _ (.slice none 0 0) _ rfl rfl rfl rfl ?_;rw [EV.out];rw [← hq0];exact H1.out
 | true =>
  rw [hb] at TK;have TKH:=aa TK;have EV:=aa (show eD st=exprS (b7 wWhere st).2 by unfold eD;rw [hb];rfl);have EX:=aa (fun w hp=>kY gp gm (b7 wWhere st).2 w hp);clear TK hb;go_wp2_with fail;refine TKH.out.mono ?_;rintro r w1 ⟨rfl,hk,hp⟩;have H1:=aa (bw H.out hk hp fN);have E1:=aa (EX.out w1 hp);clear hk hp TKH H EX;go_wp2_with fail;refine E1.out.mono ?_;rintro r w2 ⟨v9,rfl,hn,hk,hp⟩;have H2:=aa (bw H1.out hk hp mN);obtain ⟨a9,n9,c9,rfl⟩:=bU hn.1;have O2:=aa (show lh w2 (gp+1) (.slice a9 n9 c9) (exprS (b7 wWhere st).2).1 (okS (exprS (b7 wWhere st).2).2) from ⟨hn.1,fun e=>.inr (hn.2 e)⟩);have BS:=az H2.out.bq 1 (.slice a9 n9 c9) (by simp);have H3:=aa (ff H2.out 1 (.slice a9 n9 c9) (va':=va) (vw':=.slice a9 n9 c9) (vb':=vb) (q':={ q with wh:=(exprS (b7 wWhere st).2).1 }) (by simpa using BS) H2.out.ag O2.out H2.out.hb);have f1:=H2.out.bq.fz 1;have c1:=H2.out.bq.c 1 (by simp);simp only [List.getElem?_cons_zero,List.getElem?_cons_succ] at c1;clear hk hp hn E1 H1 H2 BS O2;go_wp2_with fail;refine HQ.out _ (.slice a9 n9 c9) _ rfl rfl rfl rfl ?_;rw [EV.out];exact H3.out
theorem qOpt10 (Q:Exit→Act→World→Prop) (C10:Code) (h10:rgn 10 (Tryz.f70.body.getD .skip)=some C10) (C11:Code) (h11:rgn 11 (Tryz.f70.body.getD .skip)=some C11) (C12:Code) (h12:rgn 12 (Tryz.f70.body.getD .skip)=some C12) (t:List Value) (gp gm gr gq:Nat) (st:St) (va vw vb:Value) (q:Qy) (W w:World) (hw0:vb=.slice none 0 0) (hq0:q.bys=[]) (ht:t.length=71) (k0:t[0]?=some (.pointer (some ⟨gp,0,none⟩))) (k2:t[2]?=some (.pointer (some ⟨gr,0,none⟩))) (k3:t[3]?=some (.pointer (some ⟨gq,0,none⟩)))
  (h:QS W w gp gm gr gq st va vw vb q)
  (hQ:∀ (t':List Value) (vb':Value) (w':World),t'.length=71→t'[0]?=some (.pointer (some ⟨gp,0,none⟩))→t'[2]?=some (.pointer (some ⟨gr,0,none⟩))→t'[3]?=some (.pointer (some ⟨gq,0,none⟩))→QS W w' gp gm gr gq (eI st).2 va vw vb' { q with bys:=(eI st).1 }→Q .normal { tmps:=t'.toArray,defers:=[] } w') :
  Code.wp Tryz.prog (.seq C10 (.cond (.tmp 32) (.seq C11 C12) .skip)) Q { tmps:=t.toArray,defers:=[] } w:=by
 have HQ:=aa hQ;have H:=aa h;clear hQ h;have TK:=fA gp gm wGroup (by decide) st w H.out.ps;subst hw0;obtain ⟨f,hf,hi⟩:=listed t ht;have e0:=aq (hi 0 (by decide)) k0;have e2:=aq (hi 2 (by decide)) k2;have e3:=aq (hi 3 (by decide)) k3;rw [e0,e2,e3] at hf;clear hi ht k0 e0 k2 e2 k3 e3;subst hf;unfold Tryz.f70 at h10
 simp [rgn] at h10
 subst h10;unfold Tryz.f70 at h11
 simp [rgn] at h11
 subst h11;unfold Tryz.f70 at h12
 simp [rgn] at h12
 subst h12;cases hb:(b7 wGroup st).1 with
 | false =>
  rw [hb,dB hb] at TK;have TKH:=aa TK;have EV:=aa (show eI st=([],st) by unfold eI;rw [hb,dB hb];rfl);clear TK hb;go_wp2_with fail;refine TKH.out.mono ?_;rintro r w1 ⟨rfl,hk,hp⟩;have H1:=aa (bw H.out hk hp id);clear hk hp TKH H;go_wp2_with fail;refine HQ.out _ (.slice none 0 0) _ rfl rfl rfl rfl ?_;rw [EV.out];rw [← hq0];exact H1.out
 | true =>
  rw [hb] at TK;have TKH:=aa TK;have EV:=aa (show eI st=exprS (bc wBy (b7 wGroup st).2) by unfold eI;rw [hb];rfl);have MU:=aa (fun w hp=>ek gp gm wBy (by decide) (b7 wGroup st).2 w hp);have EX:=aa (fun w hp=>kY gp gm (bc wBy (b7 wGroup st).2) w hp);clear TK hb;go_wp2_with fail;refine TKH.out.mono ?_;rintro r w1 ⟨rfl,hk,hp⟩;have H1:=aa (bw H.out hk hp fN);have M1:=aa (MU.out w1 hp);clear hk hp TKH H MU;go_wp2_with fail;refine M1.out.mono ?_;rintro r w2 ⟨rfl,hk,hp⟩;have H1':=aa (bw H1.out hk hp fd);have E1:=aa (EX.out w2 hp);clear hk hp M1 H1 EX;go_wp2_with fail;refine E1.out.mono ?_;rintro r w3 ⟨v9,rfl,hn,hk,hp⟩;have H2:=aa (bw H1'.out hk hp mN);obtain ⟨a9,n9,c9,rfl⟩:=bU hn.1;have O2:=aa (show lh w3 (gp+1) (.slice a9 n9 c9) (exprS (bc wBy (b7 wGroup st).2)).1 (okS (exprS (bc wBy (b7 wGroup st).2)).2) from ⟨hn.1,fun e=>.inr (hn.2 e)⟩);have BS:=az H2.out.bq 2 (.slice a9 n9 c9) (by simp);have H3:=aa (ff H2.out 2 (.slice a9 n9 c9) (va':=va) (vw':=vw) (vb':=.slice a9 n9 c9) (q':={ q with bys:=(exprS (bc wBy (b7 wGroup st).2)).1 }) (by simpa using BS) H2.out.ag H2.out.hw O2.out);have f1:=H2.out.bq.fz 2;have c1:=H2.out.bq.c 2 (by simp);simp only [List.getElem?_cons_zero,List.getElem?_cons_succ] at c1;clear hk hp hn E1 H1' H2 BS O2;go_wp2_with fail;refine HQ.out _ (.slice a9 n9 c9) _ rfl rfl rfl rfl ?_;rw [EV.out];exact H3.out
theorem qSize (Q:Exit→Act→World→Prop) (X:Code) (C14:Code) (h14:rgn 14 (Tryz.f70.body.getD .skip)=some C14) (C15:Code) (h15:rgn 15 (Tryz.f70.body.getD .skip)=some C15) (t:List Value) (gp gm gr gq:Nat) (st:St) (va vw vb:Value) (q:Qy) (W w:World) (ht:t.length=71) (k0:t[0]?=some (.pointer (some ⟨gp,0,none⟩))) (k2:t[2]?=some (.pointer (some ⟨gr,0,none⟩))) (k3:t[3]?=some (.pointer (some ⟨gq,0,none⟩)))
  (h:QS W w gp gm gr gq st va vw vb q)
  (hQ:∀ (t':List Value)  (w':World),t'.length=71→t'[0]?=some (.pointer (some ⟨gp,0,none⟩))→t'[2]?=some (.pointer (some ⟨gr,0,none⟩))→t'[3]?=some (.pointer (some ⟨gq,0,none⟩))→QS W w' gp gm gr gq (spanS st).2 va vw vb { q with size:=(spanS st).1,slide:=(spanS st).1 }→Code.wp Tryz.prog X Q { tmps:=t'.toArray,defers:=[] } w') :
  Code.wp Tryz.prog (.seq C14 (.seq C15 X)) Q { tmps:=t.toArray,defers:=[] } w:=by
 have HQ:=aa hQ;have H:=aa h;clear hQ h;have EX:=aa (kX gp gm st w H.out.ps);obtain ⟨f,hf,hi⟩:=listed t ht;have e0:=aq (hi 0 (by decide)) k0;have e2:=aq (hi 2 (by decide)) k2;have e3:=aq (hi 3 (by decide)) k3;rw [e0,e2,e3] at hf;clear hi ht k0 e0 k2 e2 k3 e3;subst hf;unfold Tryz.f70 at h14
 simp [rgn] at h14
 subst h14;unfold Tryz.f70 at h15
 simp [rgn] at h15
 subst h15;go_wp2_with fail;refine EX.out.mono ?_;rintro r w1 ⟨rfl,hk,hp⟩;have H2:=aa (bw H.out hk hp iD);have BS:=az H2.out.bq 3 (.int .i64 (spanS st).1) (by simp);have H3:=aa (ff H2.out 3 (.int .i64 (spanS st).1) (va':=va) (vw':=vw) (vb':=vb) (q':={ q with size:=(spanS st).1 }) (by simpa using BS) H2.out.ag H2.out.hw H2.out.hb);have BS2:=az H3.out.bq 4 (.int .i64 (spanS st).1) (by simp);have H4:=aa (ff H3.out 4 (.int .i64 (spanS st).1) (va':=va) (vw':=vw) (vb':=vb) (q':={ q with size:=(spanS st).1,slide:=(spanS st).1 }) (by simpa using BS2) H3.out.ag H3.out.hw H3.out.hb);have f1:=H2.out.bq.fz 3;have c1:=H2.out.bq.c 3 (by simp);have f2:=H3.out.bq.fz 4;have f2':=H2.out.bq.fz 4;have c2':=H2.out.bq.c 4 (by simp);have c2:=H3.out.bq.c 3 (by simp);have c3:=H3.out.bq.c 4 (by simp);simp only [List.getElem?_cons_zero,List.getElem?_cons_succ] at c1 c2 c3 c2';clear hk hp EX H H2 H3 BS BS2;go_wp2_with fail;exact HQ.out _  _ rfl rfl rfl rfl H4.out
theorem qOpt16 (Q:Exit→Act→World→Prop) (C16:Code) (h16:rgn 16 (Tryz.f70.body.getD .skip)=some C16) (C17:Code) (h17:rgn 17 (Tryz.f70.body.getD .skip)=some C17) (t:List Value) (gp gm gr gq:Nat) (st:St) (va vw vb:Value) (q:Qy) (W w:World) (ht:t.length=71) (k0:t[0]?=some (.pointer (some ⟨gp,0,none⟩))) (k2:t[2]?=some (.pointer (some ⟨gr,0,none⟩))) (k3:t[3]?=some (.pointer (some ⟨gq,0,none⟩)))
  (h:QS W w gp gm gr gq st va vw vb q)
  (hQ:∀ (t':List Value)  (w':World),t'.length=71→t'[0]?=some (.pointer (some ⟨gp,0,none⟩))→t'[2]?=some (.pointer (some ⟨gr,0,none⟩))→t'[3]?=some (.pointer (some ⟨gq,0,none⟩))→QS W w' gp gm gr gq (fR wSlide q.slide st).2 va vw vb { q with slide:=(fR wSlide q.slide st).1 }→Q .normal { tmps:=t'.toArray,defers:=[] } w') :
  Code.wp Tryz.prog (.seq C16 (.cond (.tmp 47) C17 .skip)) Q { tmps:=t.toArray,defers:=[] } w:=by
 have HQ:=aa hQ;have H:=aa h;clear hQ h;have TK:=fA gp gm wSlide (by decide) st w H.out.ps;obtain ⟨f,hf,hi⟩:=listed t ht;have e0:=aq (hi 0 (by decide)) k0;have e2:=aq (hi 2 (by decide)) k2;have e3:=aq (hi 3 (by decide)) k3;rw [e0,e2,e3] at hf;clear hi ht k0 e0 k2 e2 k3 e3;subst hf;unfold Tryz.f70 at h16
 simp [rgn] at h16
 subst h16;unfold Tryz.f70 at h17
 simp [rgn] at h17
 subst h17;cases hb:(b7 wSlide st).1 with
 | false =>
  rw [hb,dB hb] at TK;have TKH:=aa TK;have EV:=aa (show fR wSlide q.slide st=(q.slide,st) by unfold fR;rw [hb,dB hb];rfl);clear TK hb;go_wp2_with fail;refine TKH.out.mono ?_;rintro r w1 ⟨rfl,hk,hp⟩;have H1:=aa (bw H.out hk hp id);clear hk hp TKH H;go_wp2_with fail;refine HQ.out _ _ rfl rfl rfl rfl ?_;rw [EV.out];exact H1.out
 | true =>
  rw [hb] at TK;have TKH:=aa TK;have EV:=aa (show fR wSlide q.slide st=spanS (b7 wSlide st).2 by unfold fR;rw [hb];rfl);have EX:=aa (fun w hp=>kX gp gm (b7 wSlide st).2 w hp);clear TK hb;go_wp2_with fail;refine TKH.out.mono ?_;rintro r w1 ⟨rfl,hk,hp⟩;have H1:=aa (bw H.out hk hp fN);have E1:=aa (EX.out w1 hp);clear hk hp TKH H EX;go_wp2_with fail;refine E1.out.mono ?_;rintro r w2 ⟨rfl,hk,hp⟩;have H2:=aa (bw H1.out hk hp iD);have BS:=az H2.out.bq 4 (.int .i64 (spanS (b7 wSlide st).2).1) (by simp);have H3:=aa (ff H2.out 4 (.int .i64 (spanS (b7 wSlide st).2).1) (va':=va) (vw':=vw) (vb':=vb) (q':={ q with slide:=(spanS (b7 wSlide st).2).1 }) (by simpa using BS) H2.out.ag H2.out.hw H2.out.hb);have f1:=H2.out.bq.fz 4;have c1:=H2.out.bq.c 4 (by simp);simp only [List.getElem?_cons_zero,List.getElem?_cons_succ] at c1;clear hk hp E1 H1 H2 BS;go_wp2_with fail;refine HQ.out _ _ rfl rfl rfl rfl ?_;rw [EV.out];exact H3.out
theorem qOpt18 (Q:Exit→Act→World→Prop) (C18:Code) (h18:rgn 18 (Tryz.f70.body.getD .skip)=some C18) (C19:Code) (h19:rgn 19 (Tryz.f70.body.getD .skip)=some C19) (t:List Value) (gp gm gr gq:Nat) (st:St) (va vw vb:Value) (q:Qy) (W w:World) (ht:t.length=71) (k0:t[0]?=some (.pointer (some ⟨gp,0,none⟩))) (k2:t[2]?=some (.pointer (some ⟨gr,0,none⟩))) (k3:t[3]?=some (.pointer (some ⟨gq,0,none⟩)))
  (h:QS W w gp gm gr gq st va vw vb q)
  (hQ:∀ (t':List Value)  (w':World),t'.length=71→t'[0]?=some (.pointer (some ⟨gp,0,none⟩))→t'[2]?=some (.pointer (some ⟨gr,0,none⟩))→t'[3]?=some (.pointer (some ⟨gq,0,none⟩))→QS W w' gp gm gr gq (fR wDelay q.delay st).2 va vw vb { q with delay:=(fR wDelay q.delay st).1 }→Q .normal { tmps:=t'.toArray,defers:=[] } w') :
  Code.wp Tryz.prog (.seq C18 (.cond (.tmp 52) C19 .skip)) Q { tmps:=t.toArray,defers:=[] } w:=by
 have HQ:=aa hQ;have H:=aa h;clear hQ h;have TK:=fA gp gm wDelay (by decide) st w H.out.ps;obtain ⟨f,hf,hi⟩:=listed t ht;have e0:=aq (hi 0 (by decide)) k0;have e2:=aq (hi 2 (by decide)) k2;have e3:=aq (hi 3 (by decide)) k3;rw [e0,e2,e3] at hf;clear hi ht k0 e0 k2 e2 k3 e3;subst hf;unfold Tryz.f70 at h18
 simp [rgn] at h18
 subst h18;unfold Tryz.f70 at h19
 simp [rgn] at h19
 subst h19;cases hb:(b7 wDelay st).1 with
 | false =>
  rw [hb,dB hb] at TK;have TKH:=aa TK;have EV:=aa (show fR wDelay q.delay st=(q.delay,st) by unfold fR;rw [hb,dB hb];rfl);clear TK hb;go_wp2_with fail;refine TKH.out.mono ?_;rintro r w1 ⟨rfl,hk,hp⟩;have H1:=aa (bw H.out hk hp id);clear hk hp TKH H;go_wp2_with fail;refine HQ.out _ _ rfl rfl rfl rfl ?_;rw [EV.out];exact H1.out
 | true =>
  rw [hb] at TK;have TKH:=aa TK;have EV:=aa (show fR wDelay q.delay st=spanS (b7 wDelay st).2 by unfold fR;rw [hb];rfl);have EX:=aa (fun w hp=>kX gp gm (b7 wDelay st).2 w hp);clear TK hb;go_wp2_with fail;refine TKH.out.mono ?_;rintro r w1 ⟨rfl,hk,hp⟩;have H1:=aa (bw H.out hk hp fN);have E1:=aa (EX.out w1 hp);clear hk hp TKH H EX;go_wp2_with fail;refine E1.out.mono ?_;rintro r w2 ⟨rfl,hk,hp⟩;have H2:=aa (bw H1.out hk hp iD);have BS:=az H2.out.bq 5 (.int .i64 (spanS (b7 wDelay st).2).1) (by simp);have H3:=aa (ff H2.out 5 (.int .i64 (spanS (b7 wDelay st).2).1) (va':=va) (vw':=vw) (vb':=vb) (q':={ q with delay:=(spanS (b7 wDelay st).2).1 }) (by simpa using BS) H2.out.ag H2.out.hw H2.out.hb);have f1:=H2.out.bq.fz 5;have c1:=H2.out.bq.c 5 (by simp);simp only [List.getElem?_cons_zero,List.getElem?_cons_succ] at c1;clear hk hp E1 H1 H2 BS;go_wp2_with fail;refine HQ.out _ _ rfl rfl rfl rfl ?_;rw [EV.out];exact H3.out
theorem qOpt20 (Q:Exit→Act→World→Prop) (C20:Code) (h20:rgn 20 (Tryz.f70.body.getD .skip)=some C20) (C21:Code) (h21:rgn 21 (Tryz.f70.body.getD .skip)=some C21) (t:List Value) (gp gm gr gq:Nat) (st:St) (va vw vb:Value) (q:Qy) (W w:World) (ht:t.length=71) (k0:t[0]?=some (.pointer (some ⟨gp,0,none⟩))) (k2:t[2]?=some (.pointer (some ⟨gr,0,none⟩))) (k3:t[3]?=some (.pointer (some ⟨gq,0,none⟩)))
  (h:QS W w gp gm gr gq st va vw vb q)
  (hQ:∀ (t':List Value)  (w':World),t'.length=71→t'[0]?=some (.pointer (some ⟨gp,0,none⟩))→t'[2]?=some (.pointer (some ⟨gr,0,none⟩))→t'[3]?=some (.pointer (some ⟨gq,0,none⟩))→QS W w' gp gm gr gq (fR wLate q.late st).2 va vw vb { q with late:=(fR wLate q.late st).1 }→Q .normal { tmps:=t'.toArray,defers:=[] } w') :
  Code.wp Tryz.prog (.seq C20 (.cond (.tmp 57) C21 .skip)) Q { tmps:=t.toArray,defers:=[] } w:=by
 have HQ:=aa hQ;have H:=aa h;clear hQ h;have TK:=fA gp gm wLate (by decide) st w H.out.ps;obtain ⟨f,hf,hi⟩:=listed t ht;have e0:=aq (hi 0 (by decide)) k0;have e2:=aq (hi 2 (by decide)) k2;have e3:=aq (hi 3 (by decide)) k3;rw [e0,e2,e3] at hf;clear hi ht k0 e0 k2 e2 k3 e3;subst hf;unfold Tryz.f70 at h20
 simp [rgn] at h20
 subst h20;unfold Tryz.f70 at h21
 simp [rgn] at h21
 subst h21;cases hb:(b7 wLate st).1 with
 | false =>
  rw [hb,dB hb] at TK;have TKH:=aa TK;have EV:=aa (show fR wLate q.late st=(q.late,st) by unfold fR;rw [hb,dB hb];rfl);clear TK hb;go_wp2_with fail;refine TKH.out.mono ?_;rintro r w1 ⟨rfl,hk,hp⟩;have H1:=aa (bw H.out hk hp id);clear hk hp TKH H;go_wp2_with fail;refine HQ.out _ _ rfl rfl rfl rfl ?_;rw [EV.out];exact H1.out
 | true =>
  rw [hb] at TK;have TKH:=aa TK;have EV:=aa (show fR wLate q.late st=spanS (b7 wLate st).2 by unfold fR;rw [hb];rfl);have EX:=aa (fun w hp=>kX gp gm (b7 wLate st).2 w hp);clear TK hb;go_wp2_with fail;refine TKH.out.mono ?_;rintro r w1 ⟨rfl,hk,hp⟩;have H1:=aa (bw H.out hk hp fN);have E1:=aa (EX.out w1 hp);clear hk hp TKH H EX;go_wp2_with fail;refine E1.out.mono ?_;rintro r w2 ⟨rfl,hk,hp⟩;have H2:=aa (bw H1.out hk hp iD);have BS:=az H2.out.bq 6 (.int .i64 (spanS (b7 wLate st).2).1) (by simp);have H3:=aa (ff H2.out 6 (.int .i64 (spanS (b7 wLate st).2).1) (va':=va) (vw':=vw) (vb':=vb) (q':={ q with late:=(spanS (b7 wLate st).2).1 }) (by simpa using BS) H2.out.ag H2.out.hw H2.out.hb);have f1:=H2.out.bq.fz 6;have c1:=H2.out.bq.c 6 (by simp);simp only [List.getElem?_cons_zero,List.getElem?_cons_succ] at c1;clear hk hp E1 H1 H2 BS;go_wp2_with fail;refine HQ.out _ _ rfl rfl rfl rfl ?_;rw [EV.out];exact H3.out
def questS (ws:Ws):Qy×St :=
 let a:=dF (bc wSelect (.ok ws))
 let l:=aggsS FU [a.1] a.2
 let wh:=eD (bc wEvents (bc wFrom l.2))
 let by_:=eI wh.2
 let sz:=spanS (bc wWindow by_.2)
 let sl:=fR wSlide sz.1 sz.2
 let de:=fR wDelay 0 sl.2
 let la:=fR wLate 0 de.2
 (⟨l.1,wh.1,by_.1,sz.1,sl.1,de.1,la.1⟩,endS la.2)
theorem dj {α:Type} {k:Ws→Except Int α} (k':St→Except Int α) (he:∀ c,k' (.error c)=.error c) (hk:∀ ws,k ws=k' (.ok ws)) (st:St):fU st k=k' st:=by
 cases st with
 | error c=>exact (he c).symm
 | ok ws=>exact hk ws
def tE (q:Qy) (st:St):Except Int Qy:=fU (endS st) (fun _=>.ok q)
def qN (a:List AgQ) (wh bys:List Nd) (sz sl de:Int) (st:St):Except Int Qy:=tE ⟨a,wh,bys,sz,sl,de,(fR wLate 0 st).1⟩ (fR wLate 0 st).2
def pW (a:List AgQ) (wh bys:List Nd) (sz sl:Int) (st:St):Except Int Qy:=qN a wh bys sz sl (fR wDelay 0 st).1 (fR wDelay 0 st).2
def pP (a:List AgQ) (wh bys:List Nd) (sz:Int) (st:St):Except Int Qy:=pW a wh bys sz (fR wSlide sz st).1 (fR wSlide sz st).2
def qh (a:List AgQ) (wh bys:List Nd) (st:St):Except Int Qy:=pP a wh bys (spanS st).1 (spanS st).2
def pI (a:List AgQ) (wh:List Nd) (st:St):Except Int Qy:=qh a wh (eI st).1 (bc wWindow (eI st).2)
def oG (a:List AgQ) (st:St):Except Int Qy:=pI a (eD st).1 (eD st).2
def qG (a:List AgQ) (st:St):Except Int Qy:=oG a (bc wEvents (bc wFrom st))
theorem end_run (q:Qy) (ws:Ws):qU q ws=tE q (.ok ws):=by
 unfold tE qU endS
 simp only
 by_cases h:ws=[]
 ·simp only [if_pos h,fU]
 ·simp only [if_neg h,fU]
theorem tail_run (a:List AgQ) (ws:Ws):oK a ws=qG a (.ok ws):=by
 unfold oK;simp only [iN,where_run,group_run,mD,opt_run,end_run];refine dj (fun st=>oG a (bc wEvents st)) (fun c=>rfl) (fun ws=>?_) _;refine dj (fun st=>oG a st) (fun c=>rfl) (fun ws=>?_) _;refine dj (fun st=>pI a (eD (.ok ws)).1 st) (fun c=>rfl) (fun ws1=>?_) _;refine dj (fun st=>qh a _ (eI (.ok ws1)).1 (bc wWindow st)) (fun c=>rfl) (fun ws2=>?_) _;refine dj (fun st=>qh a _ _ st) (fun c=>rfl) (fun ws3=>?_) _;refine dj (fun st=>pP a _ _ (spanS (.ok ws3)).1 st) (fun c=>rfl) (fun ws4=>?_) _;refine dj (fun st=>pW a _ _ _ (fR wSlide _ (.ok ws4)).1 st) (fun c=>rfl) (fun ws5=>?_) _;refine dj (fun st=>qN a _ _ _ _ (fR wDelay 0 (.ok ws5)).1 st) (fun c=>rfl) (fun ws6=>?_) _;exact dj (fun st=>tE _ st) (fun c=>rfl) (fun ws7=>rfl) _
theorem quest_run (ws:Ws):jN ws=fU (questS ws).2 (fun _=>.ok (questS ws).1):=by
 have e:fU (questS ws).2 (fun _=>.ok (questS ws).1)=qG (aggsS FU [(dF (bc wSelect (.ok ws))).1] (dF (bc wSelect (.ok ws))).2).1 (aggsS FU [(dF (bc wSelect (.ok ws))).1] (dF (bc wSelect (.ok ws))).2).2:=rfl;rw [e];unfold jN;rw [iN];cases h0:bc wSelect (.ok ws) with
 | error c=>simp only [mV,jr];rfl
 | ok ws0 =>
  show (match nP ws0 with
   | .error c=>.error c
   | .ok (a,ws1)=>match aggsP FU [a] ws1 with
    | .error c=>.error c
    | .ok (l,ws2)=>oK l ws2:Except Int Qy)=_
  rw [o8];cases ha:(dF (.ok ws0)).2 with
  | error c=>simp only [jr];rfl
  | ok ws1 =>
   show (match aggsP FU [(dF (.ok ws0)).1] ws1 with
    | .error c=>.error c
    | .ok (l,ws2)=>oK l ws2:Except Int Qy)=_
   rw [aggs_run];cases hl:(aggsS FU [(dF (.ok ws0)).1] (.ok ws1)).2 with
   | error c=>rfl
   | ok ws2=>exact tail_run _ _
def pmS:St→Nat
 | .ok ws=>ws.length+1
 | .error _=>0
theorem pK {w:World} {gp gm:Nat} {st:St} (h:PXS w gp gm st):pmeas w gp=pmS st:=by
 cases st with
 | ok ws=>obtain ⟨wv,h⟩:=h;exact kL h.ps
 | error c=>obtain ⟨h0,wv,h⟩:=h;exact gA h.ps h0
theorem pmS_step {st:St} (hb:(b7 wComma st).1=true):pmS (dF (b7 wComma st).2).2 < pmS st:=by
 have h1:=mq hb;have h2:=nJ (b7 wComma st).2;cases st with
 | error c=>simp [b7] at hb
 | ok ws =>
  have h3:wlS (.ok ws)=ws.length:=rfl;cases h9:(dF (b7 wComma (.ok ws)).2).2 with
  | error c=>simp [pmS]
  | ok r =>
   rw [h9] at h2;have h4:wlS (.ok r)=r.length:=rfl;simp only [pmS];omega
theorem qTake4 (Q:Exit→Act→World→Prop) (C4:Code) (h4:rgn 4 (Tryz.f70.body.getD .skip)=some C4) (t:List Value) (gp gm gr gq:Nat) (st:St) (va vw vb:Value) (q:Qy) (W w:World) (ht:t.length=71) (k0:t[0]?=some (.pointer (some ⟨gp,0,none⟩))) (k2:t[2]?=some (.pointer (some ⟨gr,0,none⟩))) (k3:t[3]?=some (.pointer (some ⟨gq,0,none⟩))) (h:QS W w gp gm gr gq st va vw vb q)
  (hF:(b7 wComma st).1=false→∀ (t':List Value) (w':World),t'.length=71→t'[0]?=some (.pointer (some ⟨gp,0,none⟩))→t'[2]?=some (.pointer (some ⟨gr,0,none⟩))→t'[3]?=some (.pointer (some ⟨gq,0,none⟩))→QS W w' gp gm gr gq st va vw vb q→Q (.exit 0) { tmps:=t'.toArray,defers:=[] } w')
  (hT:(b7 wComma st).1=true→∀ (t':List Value) (w':World),t'.length=71→t'[0]?=some (.pointer (some ⟨gp,0,none⟩))→t'[2]?=some (.pointer (some ⟨gr,0,none⟩))→t'[3]?=some (.pointer (some ⟨gq,0,none⟩))→QS W w' gp gm gr gq (b7 wComma st).2 va vw vb q→Q .normal { tmps:=t'.toArray,defers:=[] } w') :
  Code.wp Tryz.prog (.seq C4 (.cond (.tmp 14) .skip (.exit 0))) Q { tmps:=t.toArray,defers:=[] } w:=by
 have H:=aa h;have TK:=fA gp gm wComma (by decide) st w H.out.ps;clear h;obtain ⟨f,hf,hi⟩:=listed t ht;have e0:=aq (hi 0 (by decide)) k0;have e2:=aq (hi 2 (by decide)) k2;have e3:=aq (hi 3 (by decide)) k3;rw [e0,e2,e3] at hf;clear hi ht k0 e0 k2 e2 k3 e3;subst hf;unfold Tryz.f70 at h4
 simp [rgn] at h4
 subst h4;cases hb:(b7 wComma st).1 with
 | false =>
  rw [hb,dB hb] at TK;have TKH:=aa TK;have HF:=aa (hF hb);clear TK hb hF hT;go_wp2_with fail;refine TKH.out.mono ?_;rintro r w1 ⟨rfl,hk,hp⟩;have H1:=aa (bw H.out hk hp id);clear hk hp TKH H;go_wp2_with fail;exact HF.out _ _ rfl rfl rfl rfl H1.out
 | true =>
  rw [hb] at TK;have TKH:=aa TK;have HT:=aa (hT hb);clear TK hb hF hT;go_wp2_with fail;refine TKH.out.mono ?_;rintro r w1 ⟨rfl,hk,hp⟩;have H1:=aa (bw H.out hk hp fN);clear hk hp TKH H;go_wp2_with fail;exact HT.out _ _ rfl rfl rfl rfl H1.out
theorem qLoop (Q:Exit→Act→World→Prop) (C4:Code) (h4:stm 4 (Tryz.f70.body.getD .skip)=some C4) (t:List Value) (gp gm gr gq n0:Nat) (st:St) (va vw vb:Value) (q:Qy) (W w:World) (ht:t.length=71) (k0:t[0]?=some (.pointer (some ⟨gp,0,none⟩))) (k2:t[2]?=some (.pointer (some ⟨gr,0,none⟩))) (k3:t[3]?=some (.pointer (some ⟨gq,0,none⟩)))
  (hn0:wlS st < n0) (hl0:q.aggs.length+wlS st≤150) (h:QS W w gp gm gr gq st va vw vb q)
  (hpan:∀ c (a:Act) o v w,Q (.panic c) (a.put o v) w→Q (.panic c) a w)
  (hQ:∀ (t':List Value) (va':Value) (w':World),t'.length=71→t'[0]?=some (.pointer (some ⟨gp,0,none⟩))→t'[2]?=some (.pointer (some ⟨gr,0,none⟩))→t'[3]?=some (.pointer (some ⟨gq,0,none⟩))→QS W w' gp gm gr gq (aggsS n0 q.aggs st).2 va' vw vb { q with aggs:=(aggsS n0 q.aggs st).1 }→Q .normal { tmps:=t'.toArray,defers:=[] } w') :
  Code.wp Tryz.prog C4 Q { tmps:=t.toArray,defers:=[] } w:=by
 have HQ:=aa hQ;have HPN:=aa hpan;clear hQ hpan;unfold Tryz.f70 at h4
 simp [stm,lead] at h4
 subst h4;refine wp_block (wp_loop (fun a wr=>∃ (t:List Value) (k:Nat) (l:List AgQ) (st1:St) (va1:Value),a={ tmps:=t.toArray,defers:=[] }∧t.length=71∧(t[0]?=some (.pointer (some ⟨gp,0,none⟩))∧t[2]?=some (.pointer (some ⟨gr,0,none⟩))∧t[3]?=some (.pointer (some ⟨gq,0,none⟩)))∧QS W wr gp gm gr gq st1 va1 vw vb { q with aggs:=l }∧wlS st1 < k∧l.length+wlS st1≤150∧aggsS k l st1=aggsS n0 q.aggs st) (fun a wr=>pmeas wr gp) ?_ ?_)
 ·exact ⟨t,n0,q.aggs,st,va,rfl,ht,⟨k0,k2,k3⟩,h,hn0,hl0,rfl⟩
 ·rintro a wr ⟨t,k,l,st1,va1,rfl,ht,⟨k0,k2,k3⟩,hq,hk,hl,he⟩;obtain ⟨k8,rfl⟩:∃ k8,k=k8+1:=⟨k - 1,by omega⟩;refine wp_seq (qTake4 _ _ (by kernel_rfl) t gp gm gr gq st1 va1 vw vb { q with aggs:=l } W wr ht k0 k2 k3 hq ?_ ?_)
  ·intro hb t' w' ht' a0 a2 a3 h1;have e1:aggsS (k8+1) l st1=(l,st1):=by simp only [aggsS,hb];rfl
   refine lG (lG (in_exit (HQ.out t' va1 w' ht' a0 a2 a3 ?_)));rw [← he,e1];exact h1
  ·intro hb t1 w1 ht1 a0 a2 a3 h1;have hw1:=mq hb;have e1:aggsS (k8+1) l st1=aggsS k8 (l++[(dF (b7 wComma st1).2).1]) (dF (b7 wComma st1).2).2:=by simp only [aggsS,if_pos hb]
   refine aQ (wp_block (qAdd5 _ _ (by kernel_rfl) t1 gp gm gr gq (b7 wComma st1).2 va1 vw vb { q with aggs:=l } W w1 ht1 a0 a2 a3 h1 (by show l.length≤200;omega) (pan_block (bX (fun c a o v w h=>HPN.out c a o v w h))) ?_));intro t2 va2 w2 ht2 b0 b2 b3 h2;have hw2:=nJ (b7 wComma st1).2;refine in_normal ⟨⟨t2,k8,_,_,va2,rfl,ht2,⟨b0,b2,b3⟩,h2,by omega,by simp;omega,by rw [← e1];exact he⟩,?_⟩;rw [pK hq.ps,pK h2.ps];exact pmS_step hb
def QuestR (gp gm:Nat) (ws:Ws) (W:World) (r:Ending) (w:World):Prop:=∃ va vw vb,r=.returned (.agg #[va,vw,vb,.int .i64 (questS ws).1.size,.int .i64 (questS ws).1.slide,.int .i64 (questS ws).1.delay,.int .i64 (questS ws).1.late]) ∧
 KeptB W w (fun q=>q=gp)∧PXS w gp gm (questS ws).2∧jJ w W.heap.size (gp+1) va (questS ws).1.aggs (okS (questS ws).2)∧lh w (gp+1) vw (questS ws).1.wh (okS (questS ws).2)∧lh w (gp+1) vb (questS ws).1.bys (okS (questS ws).2)
theorem qFin (R:Ending→World→Prop) (C24:Code) (h24:rgn 24 (Tryz.f70.body.getD .skip)=some C24) (t:List Value) (gp gm gr gq:Nat) (st:St) (va vw vb:Value) (q:Qy) (W w:World) (ht:t.length=71) (k0:t[0]?=some (.pointer (some ⟨gp,0,none⟩))) (k2:t[2]?=some (.pointer (some ⟨gr,0,none⟩))) (k3:t[3]?=some (.pointer (some ⟨gq,0,none⟩))) (h:QS W w gp gm gr gq st va vw vb q)
  (hR:∀ w',KeptB W w' (fun q=>q=gp)→PXS w' gp gm st→jJ w' W.heap.size (gp+1) va q.aggs (okS st)→lh w' (gp+1) vw q.wh (okS st)→lh w' (gp+1) vb q.bys (okS st)→R (.returned (.agg #[va,vw,vb,.int .i64 q.size,.int .i64 q.slide,.int .i64 q.delay,.int .i64 q.late])) w') :
  Code.wp Tryz.prog (.seq C24 .ret) (bodyPost Tryz.prog Tryz.f70 R) { tmps:=t.toArray,defers:=[] } w:=by
 have HR:=aa hR;have H:=aa h;clear h hR;have hsa:=kU H.out.ag;obtain ⟨a1,n1,c1,rfl⟩:=bU hsa;obtain ⟨a2,n2,c2,rfl⟩:=bU H.out.hw.1;obtain ⟨a3,n3,c3,rfl⟩:=bU H.out.hb.1;clear hsa;have Z:=aa (show BlkAt (((((((w.setCell ⟨gr,0,none⟩ (.slice a1 n1 c1)).setCell ⟨gr,1,none⟩ (.slice a2 n2 c2)).setCell ⟨gr,2,none⟩ (.slice a3 n3 c3)).setCell ⟨gr,3,none⟩ (.int .i64 q.size)).setCell ⟨gr,4,none⟩ (.int .i64 q.slide)).setCell ⟨gr,5,none⟩ (.int .i64 q.delay)).setCell ⟨gr,6,none⟩ (.int .i64 q.late)) gr [.slice a1 n1 c1,.slice a2 n2 c2,.slice a3 n3 c3,.int .i64 q.size,.int .i64 q.slide,.int .i64 q.delay,.int .i64 q.late] by simpa using (az (az (az (az (az (az (az H.out.br 0 (.slice a1 n1 c1) (by simp)) 1 (.slice a2 n2 c2) (by simp)) 2 (.slice a3 n3 c3) (by simp)) 3 (.int .i64 q.size) (by simp)) 4 (.int .i64 q.slide) (by simp)) 5 (.int .i64 q.delay) (by simp)) 6 (.int .i64 q.late) (by simp)));have KG:Hid (KeptB w (((((((w.setCell ⟨gr,0,none⟩ (.slice a1 n1 c1)).setCell ⟨gr,1,none⟩ (.slice a2 n2 c2)).setCell ⟨gr,2,none⟩ (.slice a3 n3 c3)).setCell ⟨gr,3,none⟩ (.int .i64 q.size)).setCell ⟨gr,4,none⟩ (.int .i64 q.slide)).setCell ⟨gr,5,none⟩ (.int .i64 q.delay)).setCell ⟨gr,6,none⟩ (.int .i64 q.late)) (fun q=>q=gr)):=(ai (ai (ai (ai (ai (ai (ai (ae (bad:=fun q=>q=gr) (Below.refl w.heap.size w)) rfl 0 _) rfl 1 _) rfl 2 _) rfl 3 _) rfl 4 _) rfl 5 _) rfl 6 _);have d0:=H.out.bq.c 0 (by simp);have f0:=H.out.br.fz 0;have b0:=H.out.br.c 0 (by simp);have d1:=H.out.bq.c 1 (by simp);have f1:=H.out.br.fz 1;have b1:=H.out.br.c 1 (by simp);have d2:=H.out.bq.c 2 (by simp);have f2:=H.out.br.fz 2;have b2:=H.out.br.c 2 (by simp);have d3:=H.out.bq.c 3 (by simp);have f3:=H.out.br.fz 3;have b3:=H.out.br.c 3 (by simp);have d4:=H.out.bq.c 4 (by simp);have f4:=H.out.br.fz 4;have b4:=H.out.br.c 4 (by simp);have d5:=H.out.bq.c 5 (by simp);have f5:=H.out.br.fz 5;have b5:=H.out.br.c 5 (by simp);have d6:=H.out.bq.c 6 (by simp);have f6:=H.out.br.fz 6;have b6:=H.out.br.c 6 (by simp);simp only [List.getElem?_cons_zero,List.getElem?_cons_succ] at d0 b0 d1 b1 d2 b2 d3 b3 d4 b4 d5 b5 d6 b6;have l1:=H.out.lr;have l3:=H.out.lp;have AG:=aa (pj H.out.ag KG.out H.out.tr qty_node qty_agg);have AW:=aa (gU H.out.hw KG.out H.out.tr qty_node);have AB:=aa (gU H.out.hb KG.out H.out.tr qty_node);have AP:=aa (gX H.out.ps KG.out (by omega));have AK:=aa (cQ H.out.kp KG.out l1);clear KG H;obtain ⟨f,hf,hi⟩:=listed t ht;have e0:=aq (hi 0 (by decide)) k0;have e2:=aq (hi 2 (by decide)) k2;have e3:=aq (hi 3 (by decide)) k3;rw [e0,e2,e3] at hf;clear hi ht k0 e0 k2 e2 k3 e3;subst hf;unfold Tryz.f70 at h24
 simp [rgn] at h24
 subst h24;go_wp2_with fail;generalize (((((((w.setCell ⟨gr,0,none⟩ (.slice a1 n1 c1)).setCell ⟨gr,1,none⟩ (.slice a2 n2 c2)).setCell ⟨gr,2,none⟩ (.slice a3 n3 c3)).setCell ⟨gr,3,none⟩ (.int .i64 q.size)).setCell ⟨gr,4,none⟩ (.int .i64 q.slide)).setCell ⟨gr,5,none⟩ (.int .i64 q.delay)).setCell ⟨gr,6,none⟩ (.int .i64 q.late))=wz at *;have z0:=Z.out.c 0 (by simp);have z1:=Z.out.c 1 (by simp);have z2:=Z.out.c 2 (by simp);have z3:=Z.out.c 3 (by simp);have z4:=Z.out.c 4 (by simp);have z5:=Z.out.c 5 (by simp);have z6:=Z.out.c 6 (by simp);simp only [List.getElem?_cons_zero,List.getElem?_cons_succ] at z0 z1 z2 z3 z4 z5 z6;exact bodyPost_ret (v:=.agg #[.slice a1 n1 c1,.slice a2 n2 c2,.slice a3 n3 c3,.int .i64 q.size,.int .i64 q.slide,.int .i64 q.delay,.int .i64 q.late]) (by simp [results,Tryz.results70,go_sem,z0,z1,z2,z3,z4,z5,z6]) rfl (HR.out _ AK.out AP.out AG.out AW.out AB.out)
theorem quest_any (gp gm:Nat) (ws:Ws) (w:World) (h:PXS w gp gm (.ok ws)) :
  Calls Tryz.prog 70 #[.pointer (some ⟨gp,0,none⟩)] w fun r w'=>QuestR gp gm ws w r w':=by
 have hf:wlS (.ok ws)≤100:=by obtain ⟨wv,hp⟩:=h;exact hp.ps.few
 go_enter Tryz.func70,Tryz.ntmps70
 refine qStart _ _ _ (by kernel_rfl) _ (by kernel_rfl) _ gp gm (.ok ws) w rfl rfl h ?_;intro t1 w1 ht1 a0 a2 a3 h1;refine (wp_seq (qMust2 _ _ (by kernel_rfl) t1 gp gm _ _ _ _ _ _ _ w w1 ht1 a0 a2 a3 h1 ?_));intro t2 w2 ht2 a02 a22 a32 h2;refine aQ (wp_seq (qAdd3 _ _ (by kernel_rfl) t2 gp gm _ _ _ _ _ _ _ w w2 ht2 a02 a22 a32 h2 (by simp) (bX eJ) ?_));intro t3 va1 w3 ht3 a03 a23 a33 h3;refine aQ (wp_seq (qLoop _ _ (by kernel_rfl) t3 gp gm _ _ FU _ _ _ _ _ w w3 ht3 a03 a23 a33 (by have:=nJ (bc wSelect (.ok ws));have:=jA wSelect (.ok ws);unfold FU;omega) (by have:=nJ (bc wSelect (.ok ws));have:=jA wSelect (.ok ws);simp;omega) h3 (bX eJ) ?_));intro t4 va2 w4 ht4 a04 a24 a34 h4;refine aQ (wp_seq (qMust6 _ _ (by kernel_rfl) t4 gp gm _ _ _ _ _ _ _ w w4 ht4 a04 a24 a34 h4 ?_));intro t5 w5 ht5 a05 a25 a35 h5;refine aQ (wp_seq (qMust7 _ _ (by kernel_rfl) t5 gp gm _ _ _ _ _ _ _ w w5 ht5 a05 a25 a35 h5 ?_));intro t6 w6 ht6 a06 a26 a36 h6;refine aQ (wp_seq (qOpt8 _ _ (by kernel_rfl) _ (by kernel_rfl) t6 gp gm _ _ _ _ _ _ _ w w6 rfl rfl ht6 a06 a26 a36 h6 ?_));intro t7 vw w7 ht7 a07 a27 a37 h7;refine aQ (wp_seq (qOpt10 _ _ (by kernel_rfl) _ (by kernel_rfl) _ (by kernel_rfl) t7 gp gm _ _ _ _ _ _ _ w w7 rfl rfl ht7 a07 a27 a37 h7 ?_));intro t8 vb w8 ht8 a08 a28 a38 h8;refine aQ (wp_seq (qMust13 _ _ (by kernel_rfl) t8 gp gm _ _ _ _ _ _ _ w w8 ht8 a08 a28 a38 h8 ?_));intro t9 w9 ht9 a09 a29 a39 h9;refine aQ (qSize _ _ _ (by kernel_rfl) _ (by kernel_rfl) t9 gp gm _ _ _ _ _ _ _ w w9 ht9 a09 a29 a39 h9 ?_);intro t10 w10 ht10 a010 a210 a310 h10;refine (wp_seq (qOpt16 _ _ (by kernel_rfl) _ (by kernel_rfl) t10 gp gm _ _ _ _ _ _ _ w w10 ht10 a010 a210 a310 h10 ?_));intro t11 w11 ht11 a011 a211 a311 h11;refine aQ (wp_seq (qOpt18 _ _ (by kernel_rfl) _ (by kernel_rfl) t11 gp gm _ _ _ _ _ _ _ w w11 ht11 a011 a211 a311 h11 ?_));intro t12 w12 ht12 a012 a212 a312 h12;refine aQ (wp_seq (qOpt20 _ _ (by kernel_rfl) _ (by kernel_rfl) t12 gp gm _ _ _ _ _ _ _ w w12 ht12 a012 a212 a312 h12 ?_));intro t13 w13 ht13 a013 a213 a313 h13;refine aQ (wp_seq (qEnds _ _ (by kernel_rfl) _ (by kernel_rfl) t13 gp gm _ _ _ _ _ _ _ w w13 ht13 a013 a213 a313 h13 ?_));intro t14 w14 ht14 a014 a214 a314 h14;exact aQ (qFin _ _ (by kernel_rfl) t14 gp gm _ _ _ _ _ _ _ w w14 ht14 a014 a214 a314 h14 (fun w' k1 k2 k3 k4 k5=>⟨_,_,_,rfl,k1,k2,k3,k4,k5⟩))
end Go.Proofs.YtcgjflamgnjhcaaGreatDoor

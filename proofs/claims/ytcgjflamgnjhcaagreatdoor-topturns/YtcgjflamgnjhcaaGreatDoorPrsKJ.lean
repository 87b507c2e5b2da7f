/- Own texts in one. Conditions: as named in each. -/
import Derived.Test.YtcgjflamgnjhcaaGreatDoorPrsJ
import Derived.Test.YtcgjflamgnjhcaaGreatDoorExprPureJ
set_option linter.unusedVariables false
set_option linter.unusedSimpArgs false
set_option maxRecDepth 100000
set_option maxHeartbeats 8000000
namespace Go.Proofs.YtcgjflamgnjhcaaGreatDoor
open Go.ChangeShapes Go.WideShapes Go.ChangeAt Go.RowKit
theorem qOpt8 (Q:Exit→Act→World→Prop) (C8:Code) (h8:rgn 8 (Tryz.f70.body.getD .skip)=some C8) (C9:Code) (h9:rgn 9 (Tryz.f70.body.getD .skip)=some C9) (t:List Value) (gp gm gr gq:Nat) (st:St) (va vw vb:Value) (q:Qy) (W w:World) (hw0:vw=.slice none 0 0) (hq0:q.wh=[]) (ht:t.length=71) (k0:t[0]?=some (.pointer (some ⟨gp,0,none⟩))) (k2:t[2]?=some (.pointer (some ⟨gr,0,none⟩))) (k3:t[3]?=some (.pointer (some ⟨gq,0,none⟩)))
  (h:QS W w gp gm gr gq st va vw vb q)
  (hQ:∀ (t':List Value) (vw':Value) (w':World),t'.length=71→t'[0]?=some (.pointer (some ⟨gp,0,none⟩))→t'[2]?=some (.pointer (some ⟨gr,0,none⟩))→t'[3]?=some (.pointer (some ⟨gq,0,none⟩))→QS W w' gp gm gr gq (em st).2 va vw' vb { q with wh:=(em st).1 }→Q .normal { tmps:=t'.toArray,defers:=[] } w') :
  Code.wp Tryz.prog (.seq C8 (.cond (.tmp 27) C9 .skip)) Q { tmps:=t.toArray,defers:=[] } w:=by
 have HQ:=aa hQ;have H:=aa h;clear hQ h;have TK:=fp gp gm wWhere (by decide) st w H.out.ps;subst hw0;obtain ⟨f,hf,hi⟩:=listed t ht;have e0:=am (hi 0 (by decide)) k0;have e2:=am (hi 2 (by decide)) k2;have e3:=am (hi 3 (by decide)) k3;rw [e0,e2,e3] at hf;clear hi ht k0 e0 k2 e2 k3 e3;subst hf;unfold Tryz.f70 at h8
 simp [rgn] at h8
 subst h8;unfold Tryz.f70 at h9
 simp [rgn] at h9
 subst h9;cases hb:(aX wWhere st).1 with
 | false =>
  rw [hb,dy hb] at TK;have TKH:=aa TK;have EV:=aa (show em st=([],st) by unfold em;rw [hb,dy hb];rfl);clear TK hb;go_wp2_with fail;refine TKH.out.mono ?_;rintro r w1 ⟨rfl,hk,hp⟩;have H1:=aa (bu H.out hk hp id);clear hk hp TKH H;go_wp2_with fail;refine HQ.out _ (.slice none 0 0) _ rfl rfl rfl rfl ?_;rw [EV.out];rw [← hq0];exact H1.out
 | true =>
  rw [hb] at TK;have TKH:=aa TK;have EV:=aa (show em st=exprS (aX wWhere st).2 by unfold em;rw [hb];rfl);have EX:=aa (fun w hp=>jX gp gm (aX wWhere st).2 w hp);clear TK hb;go_wp2_with fail;refine TKH.out.mono ?_;rintro r w1 ⟨rfl,hk,hp⟩;have H1:=aa (bu H.out hk hp fQ);have E1:=aa (EX.out w1 hp);clear hk hp TKH H EX;go_wp2_with fail;refine E1.out.mono ?_;rintro r w2 ⟨v9,rfl,hn,hk,hp⟩;have H2:=aa (bu H1.out hk hp nh);obtain ⟨a9,n9,c9,rfl⟩:=bR hn.1;have O2:=aa (show kZ w2 (gp+1) (.slice a9 n9 c9) (exprS (aX wWhere st).2).1 (okS (exprS (aX wWhere st).2).2) from ⟨hn.1,fun e=>.inr (hn.2 e)⟩);have BS:=ay H2.out.bq 1 (.slice a9 n9 c9) (by simp);have H3:=aa (eZ H2.out 1 (.slice a9 n9 c9) (va':=va) (vw':=.slice a9 n9 c9) (vb':=vb) (q':={ q with wh:=(exprS (aX wWhere st).2).1 }) (by simpa using BS) H2.out.ag O2.out H2.out.hb);have f1:=H2.out.bq.fz 1;have c1:=H2.out.bq.c 1 (by simp);simp only [List.getElem?_cons_zero,List.getElem?_cons_succ] at c1;clear hk hp hn E1 H1 H2 BS O2;go_wp2_with fail;refine HQ.out _ (.slice a9 n9 c9) _ rfl rfl rfl rfl ?_;rw [EV.out];exact H3.out
theorem qOpt10 (Q:Exit→Act→World→Prop) (C10:Code) (h10:rgn 10 (Tryz.f70.body.getD .skip)=some C10) (C11:Code) (h11:rgn 11 (Tryz.f70.body.getD .skip)=some C11) (C12:Code) (h12:rgn 12 (Tryz.f70.body.getD .skip)=some C12) (t:List Value) (gp gm gr gq:Nat) (st:St) (va vw vb:Value) (q:Qy) (W w:World) (hw0:vb=.slice none 0 0) (hq0:q.bys=[]) (ht:t.length=71) (k0:t[0]?=some (.pointer (some ⟨gp,0,none⟩))) (k2:t[2]?=some (.pointer (some ⟨gr,0,none⟩))) (k3:t[3]?=some (.pointer (some ⟨gq,0,none⟩)))
  (h:QS W w gp gm gr gq st va vw vb q)
  (hQ:∀ (t':List Value) (vb':Value) (w':World),t'.length=71→t'[0]?=some (.pointer (some ⟨gp,0,none⟩))→t'[2]?=some (.pointer (some ⟨gr,0,none⟩))→t'[3]?=some (.pointer (some ⟨gq,0,none⟩))→QS W w' gp gm gr gq (eD st).2 va vw vb' { q with bys:=(eD st).1 }→Q .normal { tmps:=t'.toArray,defers:=[] } w') :
  Code.wp Tryz.prog (.seq C10 (.cond (.tmp 32) (.seq C11 C12) .skip)) Q { tmps:=t.toArray,defers:=[] } w:=by
 have HQ:=aa hQ;have H:=aa h;clear hQ h;have TK:=fp gp gm wGroup (by decide) st w H.out.ps;subst hw0;obtain ⟨f,hf,hi⟩:=listed t ht;have e0:=am (hi 0 (by decide)) k0;have e2:=am (hi 2 (by decide)) k2;have e3:=am (hi 3 (by decide)) k3;rw [e0,e2,e3] at hf;clear hi ht k0 e0 k2 e2 k3 e3;subst hf;unfold Tryz.f70 at h10
 simp [rgn] at h10
 subst h10;unfold Tryz.f70 at h11
 simp [rgn] at h11
 subst h11;unfold Tryz.f70 at h12
 simp [rgn] at h12
 subst h12;cases hb:(aX wGroup st).1 with
 | false =>
  rw [hb,dy hb] at TK;have TKH:=aa TK;have EV:=aa (show eD st=([],st) by unfold eD;rw [hb,dy hb];rfl);clear TK hb;go_wp2_with fail;refine TKH.out.mono ?_;rintro r w1 ⟨rfl,hk,hp⟩;have H1:=aa (bu H.out hk hp id);clear hk hp TKH H;go_wp2_with fail;refine HQ.out _ (.slice none 0 0) _ rfl rfl rfl rfl ?_;rw [EV.out];rw [← hq0];exact H1.out
 | true =>
  rw [hb] at TK;have TKH:=aa TK;have EV:=aa (show eD st=exprS (aY wBy (aX wGroup st).2) by unfold eD;rw [hb];rfl);have MU:=aa (fun w hp=>eg gp gm wBy (by decide) (aX wGroup st).2 w hp);have EX:=aa (fun w hp=>jX gp gm (aY wBy (aX wGroup st).2) w hp);clear TK hb;go_wp2_with fail;refine TKH.out.mono ?_;rintro r w1 ⟨rfl,hk,hp⟩;have H1:=aa (bu H.out hk hp fQ);have M1:=aa (MU.out w1 hp);clear hk hp TKH H MU;go_wp2_with fail;refine M1.out.mono ?_;rintro r w2 ⟨rfl,hk,hp⟩;have H1':=aa (bu H1.out hk hp f9);have E1:=aa (EX.out w2 hp);clear hk hp M1 H1 EX;go_wp2_with fail;refine E1.out.mono ?_;rintro r w3 ⟨v9,rfl,hn,hk,hp⟩;have H2:=aa (bu H1'.out hk hp nh);obtain ⟨a9,n9,c9,rfl⟩:=bR hn.1;have O2:=aa (show kZ w3 (gp+1) (.slice a9 n9 c9) (exprS (aY wBy (aX wGroup st).2)).1 (okS (exprS (aY wBy (aX wGroup st).2)).2) from ⟨hn.1,fun e=>.inr (hn.2 e)⟩);have BS:=ay H2.out.bq 2 (.slice a9 n9 c9) (by simp);have H3:=aa (eZ H2.out 2 (.slice a9 n9 c9) (va':=va) (vw':=vw) (vb':=.slice a9 n9 c9) (q':={ q with bys:=(exprS (aY wBy (aX wGroup st).2)).1 }) (by simpa using BS) H2.out.ag H2.out.hw O2.out);have f1:=H2.out.bq.fz 2;have c1:=H2.out.bq.c 2 (by simp);simp only [List.getElem?_cons_zero,List.getElem?_cons_succ] at c1;clear hk hp hn E1 H1' H2 BS O2;go_wp2_with fail;refine HQ.out _ (.slice a9 n9 c9) _ rfl rfl rfl rfl ?_;rw [EV.out];exact H3.out
theorem qSize (Q:Exit→Act→World→Prop) (X:Code) (C14:Code) (h14:rgn 14 (Tryz.f70.body.getD .skip)=some C14) (C15:Code) (h15:rgn 15 (Tryz.f70.body.getD .skip)=some C15) (t:List Value) (gp gm gr gq:Nat) (st:St) (va vw vb:Value) (q:Qy) (W w:World) (ht:t.length=71) (k0:t[0]?=some (.pointer (some ⟨gp,0,none⟩))) (k2:t[2]?=some (.pointer (some ⟨gr,0,none⟩))) (k3:t[3]?=some (.pointer (some ⟨gq,0,none⟩)))
  (h:QS W w gp gm gr gq st va vw vb q)
  (hQ:∀ (t':List Value)  (w':World),t'.length=71→t'[0]?=some (.pointer (some ⟨gp,0,none⟩))→t'[2]?=some (.pointer (some ⟨gr,0,none⟩))→t'[3]?=some (.pointer (some ⟨gq,0,none⟩))→QS W w' gp gm gr gq (spanS st).2 va vw vb { q with size:=(spanS st).1,slide:=(spanS st).1 }→Code.wp Tryz.prog X Q { tmps:=t'.toArray,defers:=[] } w') :
  Code.wp Tryz.prog (.seq C14 (.seq C15 X)) Q { tmps:=t.toArray,defers:=[] } w:=by
 have HQ:=aa hQ;have H:=aa h;clear hQ h;have EX:=aa (kX gp gm st w H.out.ps);obtain ⟨f,hf,hi⟩:=listed t ht;have e0:=am (hi 0 (by decide)) k0;have e2:=am (hi 2 (by decide)) k2;have e3:=am (hi 3 (by decide)) k3;rw [e0,e2,e3] at hf;clear hi ht k0 e0 k2 e2 k3 e3;subst hf;unfold Tryz.f70 at h14
 simp [rgn] at h14
 subst h14;unfold Tryz.f70 at h15
 simp [rgn] at h15
 subst h15;go_wp2_with fail;refine EX.out.mono ?_;rintro r w1 ⟨rfl,hk,hp⟩;have H2:=aa (bu H.out hk hp iA);have BS:=ay H2.out.bq 3 (.int .i64 (spanS st).1) (by simp);have H3:=aa (eZ H2.out 3 (.int .i64 (spanS st).1) (va':=va) (vw':=vw) (vb':=vb) (q':={ q with size:=(spanS st).1 }) (by simpa using BS) H2.out.ag H2.out.hw H2.out.hb);have BS2:=ay H3.out.bq 4 (.int .i64 (spanS st).1) (by simp);have H4:=aa (eZ H3.out 4 (.int .i64 (spanS st).1) (va':=va) (vw':=vw) (vb':=vb) (q':={ q with size:=(spanS st).1,slide:=(spanS st).1 }) (by simpa using BS2) H3.out.ag H3.out.hw H3.out.hb);have f1:=H2.out.bq.fz 3;have c1:=H2.out.bq.c 3 (by simp);have f2:=H3.out.bq.fz 4;have f2':=H2.out.bq.fz 4;have c2':=H2.out.bq.c 4 (by simp);have c2:=H3.out.bq.c 3 (by simp);have c3:=H3.out.bq.c 4 (by simp);simp only [List.getElem?_cons_zero,List.getElem?_cons_succ] at c1 c2 c3 c2';clear hk hp EX H H2 H3 BS BS2;go_wp2_with fail;exact HQ.out _  _ rfl rfl rfl rfl H4.out
theorem qOpt16 (Q:Exit→Act→World→Prop) (C16:Code) (h16:rgn 16 (Tryz.f70.body.getD .skip)=some C16) (C17:Code) (h17:rgn 17 (Tryz.f70.body.getD .skip)=some C17) (t:List Value) (gp gm gr gq:Nat) (st:St) (va vw vb:Value) (q:Qy) (W w:World) (ht:t.length=71) (k0:t[0]?=some (.pointer (some ⟨gp,0,none⟩))) (k2:t[2]?=some (.pointer (some ⟨gr,0,none⟩))) (k3:t[3]?=some (.pointer (some ⟨gq,0,none⟩)))
  (h:QS W w gp gm gr gq st va vw vb q)
  (hQ:∀ (t':List Value)  (w':World),t'.length=71→t'[0]?=some (.pointer (some ⟨gp,0,none⟩))→t'[2]?=some (.pointer (some ⟨gr,0,none⟩))→t'[3]?=some (.pointer (some ⟨gq,0,none⟩))→QS W w' gp gm gr gq (fS wSlide q.slide st).2 va vw vb { q with slide:=(fS wSlide q.slide st).1 }→Q .normal { tmps:=t'.toArray,defers:=[] } w') :
  Code.wp Tryz.prog (.seq C16 (.cond (.tmp 47) C17 .skip)) Q { tmps:=t.toArray,defers:=[] } w:=by
 have HQ:=aa hQ;have H:=aa h;clear hQ h;have TK:=fp gp gm wSlide (by decide) st w H.out.ps;obtain ⟨f,hf,hi⟩:=listed t ht;have e0:=am (hi 0 (by decide)) k0;have e2:=am (hi 2 (by decide)) k2;have e3:=am (hi 3 (by decide)) k3;rw [e0,e2,e3] at hf;clear hi ht k0 e0 k2 e2 k3 e3;subst hf;unfold Tryz.f70 at h16
 simp [rgn] at h16
 subst h16;unfold Tryz.f70 at h17
 simp [rgn] at h17
 subst h17;cases hb:(aX wSlide st).1 with
 | false =>
  rw [hb,dy hb] at TK;have TKH:=aa TK;have EV:=aa (show fS wSlide q.slide st=(q.slide,st) by unfold fS;rw [hb,dy hb];rfl);clear TK hb;go_wp2_with fail;refine TKH.out.mono ?_;rintro r w1 ⟨rfl,hk,hp⟩;have H1:=aa (bu H.out hk hp id);clear hk hp TKH H;go_wp2_with fail;refine HQ.out _ _ rfl rfl rfl rfl ?_;rw [EV.out];exact H1.out
 | true =>
  rw [hb] at TK;have TKH:=aa TK;have EV:=aa (show fS wSlide q.slide st=spanS (aX wSlide st).2 by unfold fS;rw [hb];rfl);have EX:=aa (fun w hp=>kX gp gm (aX wSlide st).2 w hp);clear TK hb;go_wp2_with fail;refine TKH.out.mono ?_;rintro r w1 ⟨rfl,hk,hp⟩;have H1:=aa (bu H.out hk hp fQ);have E1:=aa (EX.out w1 hp);clear hk hp TKH H EX;go_wp2_with fail;refine E1.out.mono ?_;rintro r w2 ⟨rfl,hk,hp⟩;have H2:=aa (bu H1.out hk hp iA);have BS:=ay H2.out.bq 4 (.int .i64 (spanS (aX wSlide st).2).1) (by simp);have H3:=aa (eZ H2.out 4 (.int .i64 (spanS (aX wSlide st).2).1) (va':=va) (vw':=vw) (vb':=vb) (q':={ q with slide:=(spanS (aX wSlide st).2).1 }) (by simpa using BS) H2.out.ag H2.out.hw H2.out.hb);have f1:=H2.out.bq.fz 4;have c1:=H2.out.bq.c 4 (by simp);simp only [List.getElem?_cons_zero,List.getElem?_cons_succ] at c1;clear hk hp E1 H1 H2 BS;go_wp2_with fail;refine HQ.out _ _ rfl rfl rfl rfl ?_;rw [EV.out];exact H3.out
theorem qOpt18 (Q:Exit→Act→World→Prop) (C18:Code) (h18:rgn 18 (Tryz.f70.body.getD .skip)=some C18) (C19:Code) (h19:rgn 19 (Tryz.f70.body.getD .skip)=some C19) (t:List Value) (gp gm gr gq:Nat) (st:St) (va vw vb:Value) (q:Qy) (W w:World) (ht:t.length=71) (k0:t[0]?=some (.pointer (some ⟨gp,0,none⟩))) (k2:t[2]?=some (.pointer (some ⟨gr,0,none⟩))) (k3:t[3]?=some (.pointer (some ⟨gq,0,none⟩)))
  (h:QS W w gp gm gr gq st va vw vb q)
  (hQ:∀ (t':List Value)  (w':World),t'.length=71→t'[0]?=some (.pointer (some ⟨gp,0,none⟩))→t'[2]?=some (.pointer (some ⟨gr,0,none⟩))→t'[3]?=some (.pointer (some ⟨gq,0,none⟩))→QS W w' gp gm gr gq (fS wDelay q.delay st).2 va vw vb { q with delay:=(fS wDelay q.delay st).1 }→Q .normal { tmps:=t'.toArray,defers:=[] } w') :
  Code.wp Tryz.prog (.seq C18 (.cond (.tmp 52) C19 .skip)) Q { tmps:=t.toArray,defers:=[] } w:=by
 have HQ:=aa hQ;have H:=aa h;clear hQ h;have TK:=fp gp gm wDelay (by decide) st w H.out.ps;obtain ⟨f,hf,hi⟩:=listed t ht;have e0:=am (hi 0 (by decide)) k0;have e2:=am (hi 2 (by decide)) k2;have e3:=am (hi 3 (by decide)) k3;rw [e0,e2,e3] at hf;clear hi ht k0 e0 k2 e2 k3 e3;subst hf;unfold Tryz.f70 at h18
 simp [rgn] at h18
 subst h18;unfold Tryz.f70 at h19
 simp [rgn] at h19
 subst h19;cases hb:(aX wDelay st).1 with
 | false =>
  rw [hb,dy hb] at TK;have TKH:=aa TK;have EV:=aa (show fS wDelay q.delay st=(q.delay,st) by unfold fS;rw [hb,dy hb];rfl);clear TK hb;go_wp2_with fail;refine TKH.out.mono ?_;rintro r w1 ⟨rfl,hk,hp⟩;have H1:=aa (bu H.out hk hp id);clear hk hp TKH H;go_wp2_with fail;refine HQ.out _ _ rfl rfl rfl rfl ?_;rw [EV.out];exact H1.out
 | true =>
  rw [hb] at TK;have TKH:=aa TK;have EV:=aa (show fS wDelay q.delay st=spanS (aX wDelay st).2 by unfold fS;rw [hb];rfl);have EX:=aa (fun w hp=>kX gp gm (aX wDelay st).2 w hp);clear TK hb;go_wp2_with fail;refine TKH.out.mono ?_;rintro r w1 ⟨rfl,hk,hp⟩;have H1:=aa (bu H.out hk hp fQ);have E1:=aa (EX.out w1 hp);clear hk hp TKH H EX;go_wp2_with fail;refine E1.out.mono ?_;rintro r w2 ⟨rfl,hk,hp⟩;have H2:=aa (bu H1.out hk hp iA);have BS:=ay H2.out.bq 5 (.int .i64 (spanS (aX wDelay st).2).1) (by simp);have H3:=aa (eZ H2.out 5 (.int .i64 (spanS (aX wDelay st).2).1) (va':=va) (vw':=vw) (vb':=vb) (q':={ q with delay:=(spanS (aX wDelay st).2).1 }) (by simpa using BS) H2.out.ag H2.out.hw H2.out.hb);have f1:=H2.out.bq.fz 5;have c1:=H2.out.bq.c 5 (by simp);simp only [List.getElem?_cons_zero,List.getElem?_cons_succ] at c1;clear hk hp E1 H1 H2 BS;go_wp2_with fail;refine HQ.out _ _ rfl rfl rfl rfl ?_;rw [EV.out];exact H3.out
theorem qOpt20 (Q:Exit→Act→World→Prop) (C20:Code) (h20:rgn 20 (Tryz.f70.body.getD .skip)=some C20) (C21:Code) (h21:rgn 21 (Tryz.f70.body.getD .skip)=some C21) (t:List Value) (gp gm gr gq:Nat) (st:St) (va vw vb:Value) (q:Qy) (W w:World) (ht:t.length=71) (k0:t[0]?=some (.pointer (some ⟨gp,0,none⟩))) (k2:t[2]?=some (.pointer (some ⟨gr,0,none⟩))) (k3:t[3]?=some (.pointer (some ⟨gq,0,none⟩)))
  (h:QS W w gp gm gr gq st va vw vb q)
  (hQ:∀ (t':List Value)  (w':World),t'.length=71→t'[0]?=some (.pointer (some ⟨gp,0,none⟩))→t'[2]?=some (.pointer (some ⟨gr,0,none⟩))→t'[3]?=some (.pointer (some ⟨gq,0,none⟩))→QS W w' gp gm gr gq (fS wLate q.late st).2 va vw vb { q with late:=(fS wLate q.late st).1 }→Q .normal { tmps:=t'.toArray,defers:=[] } w') :
  Code.wp Tryz.prog (.seq C20 (.cond (.tmp 57) C21 .skip)) Q { tmps:=t.toArray,defers:=[] } w:=by
 have HQ:=aa hQ;have H:=aa h;clear hQ h;have TK:=fp gp gm wLate (by decide) st w H.out.ps;obtain ⟨f,hf,hi⟩:=listed t ht;have e0:=am (hi 0 (by decide)) k0;have e2:=am (hi 2 (by decide)) k2;have e3:=am (hi 3 (by decide)) k3;rw [e0,e2,e3] at hf;clear hi ht k0 e0 k2 e2 k3 e3;subst hf;unfold Tryz.f70 at h20
 simp [rgn] at h20
 subst h20;unfold Tryz.f70 at h21
 simp [rgn] at h21
 subst h21;cases hb:(aX wLate st).1 with
 | false =>
  rw [hb,dy hb] at TK;have TKH:=aa TK;have EV:=aa (show fS wLate q.late st=(q.late,st) by unfold fS;rw [hb,dy hb];rfl);clear TK hb;go_wp2_with fail;refine TKH.out.mono ?_;rintro r w1 ⟨rfl,hk,hp⟩;have H1:=aa (bu H.out hk hp id);clear hk hp TKH H;go_wp2_with fail;refine HQ.out _ _ rfl rfl rfl rfl ?_;rw [EV.out];exact H1.out
 | true =>
  rw [hb] at TK;have TKH:=aa TK;have EV:=aa (show fS wLate q.late st=spanS (aX wLate st).2 by unfold fS;rw [hb];rfl);have EX:=aa (fun w hp=>kX gp gm (aX wLate st).2 w hp);clear TK hb;go_wp2_with fail;refine TKH.out.mono ?_;rintro r w1 ⟨rfl,hk,hp⟩;have H1:=aa (bu H.out hk hp fQ);have E1:=aa (EX.out w1 hp);clear hk hp TKH H EX;go_wp2_with fail;refine E1.out.mono ?_;rintro r w2 ⟨rfl,hk,hp⟩;have H2:=aa (bu H1.out hk hp iA);have BS:=ay H2.out.bq 6 (.int .i64 (spanS (aX wLate st).2).1) (by simp);have H3:=aa (eZ H2.out 6 (.int .i64 (spanS (aX wLate st).2).1) (va':=va) (vw':=vw) (vb':=vb) (q':={ q with late:=(spanS (aX wLate st).2).1 }) (by simpa using BS) H2.out.ag H2.out.hw H2.out.hb);have f1:=H2.out.bq.fz 6;have c1:=H2.out.bq.c 6 (by simp);simp only [List.getElem?_cons_zero,List.getElem?_cons_succ] at c1;clear hk hp E1 H1 H2 BS;go_wp2_with fail;refine HQ.out _ _ rfl rfl rfl rfl ?_;rw [EV.out];exact H3.out
def questS (ws:Ws):Qy×St :=
 let a:=dC (aY wSelect (.ok ws))
 let l:=aggsS FU [a.1] a.2
 let wh:=em (aY wEvents (aY wFrom l.2))
 let by_:=eD wh.2
 let sz:=spanS (aY wWindow by_.2)
 let sl:=fS wSlide sz.1 sz.2
 let de:=fS wDelay 0 sl.2
 let la:=fS wLate 0 de.2
 (⟨l.1,wh.1,by_.1,sz.1,sl.1,de.1,la.1⟩,endS la.2)
theorem dh {α:Type} {k:Ws→Except Int α} (k':St→Except Int α) (he:∀ c,k' (.error c)=.error c) (hk:∀ ws,k ws=k' (.ok ws)) (st:St):fR st k=k' st:=by
 cases st with
 | error c=>exact (he c).symm
 | ok ws=>exact hk ws
def tE (q:Qy) (st:St):Except Int Qy:=fR (endS st) (fun _=>.ok q)
def qv (a:List AgQ) (wh bys:List Nd) (sz sl de:Int) (st:St):Except Int Qy:=tE ⟨a,wh,bys,sz,sl,de,(fS wLate 0 st).1⟩ (fS wLate 0 st).2
def pN (a:List AgQ) (wh bys:List Nd) (sz sl:Int) (st:St):Except Int Qy:=qv a wh bys sz sl (fS wDelay 0 st).1 (fS wDelay 0 st).2
def pM (a:List AgQ) (wh bys:List Nd) (sz:Int) (st:St):Except Int Qy:=pN a wh bys sz (fS wSlide sz st).1 (fS wSlide sz st).2
def ql (a:List AgQ) (wh bys:List Nd) (st:St):Except Int Qy:=pM a wh bys (spanS st).1 (spanS st).2
def pU (a:List AgQ) (wh:List Nd) (st:St):Except Int Qy:=ql a wh (eD st).1 (aY wWindow (eD st).2)
def pp (a:List AgQ) (st:St):Except Int Qy:=pU a (em st).1 (em st).2
def qE (a:List AgQ) (st:St):Except Int Qy:=pp a (aY wEvents (aY wFrom st))
theorem end_run (q:Qy) (ws:Ws):qJ q ws=tE q (.ok ws):=by
 unfold tE qJ endS
 simp only
 by_cases h:ws=[]
 ·simp only [if_pos h,fR]
 ·simp only [if_neg h,fR]
theorem tail_run (a:List AgQ) (ws:Ws):oV a ws=qE a (.ok ws):=by
 unfold oV;simp only [iH,where_run,group_run,nk,opt_run,end_run];refine dh (fun st=>pp a (aY wEvents st)) (fun c=>rfl) (fun ws=>?_) _;refine dh (fun st=>pp a st) (fun c=>rfl) (fun ws=>?_) _;refine dh (fun st=>pU a (em (.ok ws)).1 st) (fun c=>rfl) (fun ws1=>?_) _;refine dh (fun st=>ql a _ (eD (.ok ws1)).1 (aY wWindow st)) (fun c=>rfl) (fun ws2=>?_) _;refine dh (fun st=>ql a _ _ st) (fun c=>rfl) (fun ws3=>?_) _;refine dh (fun st=>pM a _ _ (spanS (.ok ws3)).1 st) (fun c=>rfl) (fun ws4=>?_) _;refine dh (fun st=>pN a _ _ _ (fS wSlide _ (.ok ws4)).1 st) (fun c=>rfl) (fun ws5=>?_) _;refine dh (fun st=>qv a _ _ _ _ (fS wDelay 0 (.ok ws5)).1 st) (fun c=>rfl) (fun ws6=>?_) _;exact dh (fun st=>tE _ st) (fun c=>rfl) (fun ws7=>rfl) _
theorem quest_run (ws:Ws):jO ws=fR (questS ws).2 (fun _=>.ok (questS ws).1):=by
 have e:fR (questS ws).2 (fun _=>.ok (questS ws).1)=qE (aggsS FU [(dC (aY wSelect (.ok ws))).1] (dC (aY wSelect (.ok ws))).2).1 (aggsS FU [(dC (aY wSelect (.ok ws))).1] (dC (aY wSelect (.ok ws))).2).2:=rfl;rw [e];unfold jO;rw [iH];cases h0:aY wSelect (.ok ws) with
 | error c=>simp only [mT,jq];rfl
 | ok ws0 =>
  show (match nM ws0 with
   | .error c=>.error c
   | .ok (a,ws1)=>match aggsP FU [a] ws1 with
    | .error c=>.error c
    | .ok (l,ws2)=>oV l ws2:Except Int Qy)=_
  rw [ob];cases ha:(dC (.ok ws0)).2 with
  | error c=>simp only [jq];rfl
  | ok ws1 =>
   show (match aggsP FU [(dC (.ok ws0)).1] ws1 with
    | .error c=>.error c
    | .ok (l,ws2)=>oV l ws2:Except Int Qy)=_
   rw [aggs_run];cases hl:(aggsS FU [(dC (.ok ws0)).1] (.ok ws1)).2 with
   | error c=>rfl
   | ok ws2=>exact tail_run _ _
def pmS:St→Nat
 | .ok ws=>ws.length+1
 | .error _=>0
theorem pH {w:World} {gp gm:Nat} {st:St} (h:PXS w gp gm st):pmeas w gp=pmS st:=by
 cases st with
 | ok ws=>obtain ⟨wv,h⟩:=h;exact kS h.ps
 | error c=>obtain ⟨h0,wv,h⟩:=h;exact gB h.ps h0
theorem pmS_step {st:St} (hb:(aX wComma st).1=true):pmS (dC (aX wComma st).2).2 < pmS st:=by
 have h1:=me hb;have h2:=mC (aX wComma st).2;cases st with
 | error c=>simp [aX] at hb
 | ok ws =>
  have h3:wlS (.ok ws)=ws.length:=rfl;cases h9:(dC (aX wComma (.ok ws)).2).2 with
  | error c=>simp [pmS]
  | ok r =>
   rw [h9] at h2;have h4:wlS (.ok r)=r.length:=rfl;simp only [pmS];omega
theorem qTake4 (Q:Exit→Act→World→Prop) (C4:Code) (h4:rgn 4 (Tryz.f70.body.getD .skip)=some C4) (t:List Value) (gp gm gr gq:Nat) (st:St) (va vw vb:Value) (q:Qy) (W w:World) (ht:t.length=71) (k0:t[0]?=some (.pointer (some ⟨gp,0,none⟩))) (k2:t[2]?=some (.pointer (some ⟨gr,0,none⟩))) (k3:t[3]?=some (.pointer (some ⟨gq,0,none⟩))) (h:QS W w gp gm gr gq st va vw vb q)
  (hF:(aX wComma st).1=false→∀ (t':List Value) (w':World),t'.length=71→t'[0]?=some (.pointer (some ⟨gp,0,none⟩))→t'[2]?=some (.pointer (some ⟨gr,0,none⟩))→t'[3]?=some (.pointer (some ⟨gq,0,none⟩))→QS W w' gp gm gr gq st va vw vb q→Q (.exit 0) { tmps:=t'.toArray,defers:=[] } w')
  (hT:(aX wComma st).1=true→∀ (t':List Value) (w':World),t'.length=71→t'[0]?=some (.pointer (some ⟨gp,0,none⟩))→t'[2]?=some (.pointer (some ⟨gr,0,none⟩))→t'[3]?=some (.pointer (some ⟨gq,0,none⟩))→QS W w' gp gm gr gq (aX wComma st).2 va vw vb q→Q .normal { tmps:=t'.toArray,defers:=[] } w') :
  Code.wp Tryz.prog (.seq C4 (.cond (.tmp 14) .skip (.exit 0))) Q { tmps:=t.toArray,defers:=[] } w:=by
 have H:=aa h;have TK:=fp gp gm wComma (by decide) st w H.out.ps;clear h;obtain ⟨f,hf,hi⟩:=listed t ht;have e0:=am (hi 0 (by decide)) k0;have e2:=am (hi 2 (by decide)) k2;have e3:=am (hi 3 (by decide)) k3;rw [e0,e2,e3] at hf;clear hi ht k0 e0 k2 e2 k3 e3;subst hf;unfold Tryz.f70 at h4
 simp [rgn] at h4
 subst h4;cases hb:(aX wComma st).1 with
 | false =>
  rw [hb,dy hb] at TK;have TKH:=aa TK;have HF:=aa (hF hb);clear TK hb hF hT;go_wp2_with fail;refine TKH.out.mono ?_;rintro r w1 ⟨rfl,hk,hp⟩;have H1:=aa (bu H.out hk hp id);clear hk hp TKH H;go_wp2_with fail;exact HF.out _ _ rfl rfl rfl rfl H1.out
 | true =>
  rw [hb] at TK;have TKH:=aa TK;have HT:=aa (hT hb);clear TK hb hF hT;go_wp2_with fail;refine TKH.out.mono ?_;rintro r w1 ⟨rfl,hk,hp⟩;have H1:=aa (bu H.out hk hp fQ);clear hk hp TKH H;go_wp2_with fail;exact HT.out _ _ rfl rfl rfl rfl H1.out
theorem qLoop (Q:Exit→Act→World→Prop) (C4:Code) (h4:stm 4 (Tryz.f70.body.getD .skip)=some C4) (t:List Value) (gp gm gr gq n0:Nat) (st:St) (va vw vb:Value) (q:Qy) (W w:World) (ht:t.length=71) (k0:t[0]?=some (.pointer (some ⟨gp,0,none⟩))) (k2:t[2]?=some (.pointer (some ⟨gr,0,none⟩))) (k3:t[3]?=some (.pointer (some ⟨gq,0,none⟩)))
  (hn0:wlS st < n0) (hl0:q.aggs.length+wlS st≤150) (h:QS W w gp gm gr gq st va vw vb q)
  (hpan:∀ c (a:Act) o v w,Q (.panic c) (a.put o v) w→Q (.panic c) a w)
  (hQ:∀ (t':List Value) (va':Value) (w':World),t'.length=71→t'[0]?=some (.pointer (some ⟨gp,0,none⟩))→t'[2]?=some (.pointer (some ⟨gr,0,none⟩))→t'[3]?=some (.pointer (some ⟨gq,0,none⟩))→QS W w' gp gm gr gq (aggsS n0 q.aggs st).2 va' vw vb { q with aggs:=(aggsS n0 q.aggs st).1 }→Q .normal { tmps:=t'.toArray,defers:=[] } w') :
  Code.wp Tryz.prog C4 Q { tmps:=t.toArray,defers:=[] } w:=by
 have HQ:=aa hQ;have HPN:=aa hpan;clear hQ hpan;unfold Tryz.f70 at h4
 simp [stm,lead] at h4
 subst h4;refine wp_block (wp_loop (fun a wr=>∃ (t:List Value) (k:Nat) (l:List AgQ) (st1:St) (va1:Value),a={ tmps:=t.toArray,defers:=[] }∧t.length=71∧(t[0]?=some (.pointer (some ⟨gp,0,none⟩))∧t[2]?=some (.pointer (some ⟨gr,0,none⟩))∧t[3]?=some (.pointer (some ⟨gq,0,none⟩)))∧QS W wr gp gm gr gq st1 va1 vw vb { q with aggs:=l }∧wlS st1 < k∧l.length+wlS st1≤150∧aggsS k l st1=aggsS n0 q.aggs st) (fun a wr=>pmeas wr gp) ?_ ?_)
 ·exact ⟨t,n0,q.aggs,st,va,rfl,ht,⟨k0,k2,k3⟩,h,hn0,hl0,rfl⟩
 ·rintro a wr ⟨t,k,l,st1,va1,rfl,ht,⟨k0,k2,k3⟩,hq,hk,hl,he⟩;obtain ⟨k8,rfl⟩:∃ k8,k=k8+1:=⟨k - 1,by omega⟩;refine wp_seq (qTake4 _ _ (by kernel_rfl) t gp gm gr gq st1 va1 vw vb { q with aggs:=l } W wr ht k0 k2 k3 hq ?_ ?_)
  ·intro hb t' w' ht' a0 a2 a3 h1;have e1:aggsS (k8+1) l st1=(l,st1):=by simp only [aggsS,hb];rfl
   refine lz (lz (in_exit (HQ.out t' va1 w' ht' a0 a2 a3 ?_)));rw [← he,e1];exact h1
  ·intro hb t1 w1 ht1 a0 a2 a3 h1;have hw1:=me hb;have e1:aggsS (k8+1) l st1=aggsS k8 (l++[(dC (aX wComma st1).2).1]) (dC (aX wComma st1).2).2:=by simp only [aggsS,if_pos hb]
   refine aP (wp_block (qAdd5 _ _ (by kernel_rfl) t1 gp gm gr gq (aX wComma st1).2 va1 vw vb { q with aggs:=l } W w1 ht1 a0 a2 a3 h1 (by show l.length≤200;omega) (pan_block (bX (fun c a o v w h=>HPN.out c a o v w h))) ?_));intro t2 va2 w2 ht2 b0 b2 b3 h2;have hw2:=mC (aX wComma st1).2;refine in_normal ⟨⟨t2,k8,_,_,va2,rfl,ht2,⟨b0,b2,b3⟩,h2,by omega,by simp;omega,by rw [← e1];exact he⟩,?_⟩;rw [pH hq.ps,pH h2.ps];exact pmS_step hb
def QuestR (gp gm:Nat) (ws:Ws) (W:World) (r:Ending) (w:World):Prop:=∃ va vw vb,r=.returned (.agg #[va,vw,vb,.int .i64 (questS ws).1.size,.int .i64 (questS ws).1.slide,.int .i64 (questS ws).1.delay,.int .i64 (questS ws).1.late]) ∧
 KeptB W w (fun q=>q=gp)∧PXS w gp gm (questS ws).2∧jI w W.heap.size (gp+1) va (questS ws).1.aggs (okS (questS ws).2)∧kZ w (gp+1) vw (questS ws).1.wh (okS (questS ws).2)∧kZ w (gp+1) vb (questS ws).1.bys (okS (questS ws).2)
theorem qFin (R:Ending→World→Prop) (C24:Code) (h24:rgn 24 (Tryz.f70.body.getD .skip)=some C24) (t:List Value) (gp gm gr gq:Nat) (st:St) (va vw vb:Value) (q:Qy) (W w:World) (ht:t.length=71) (k0:t[0]?=some (.pointer (some ⟨gp,0,none⟩))) (k2:t[2]?=some (.pointer (some ⟨gr,0,none⟩))) (k3:t[3]?=some (.pointer (some ⟨gq,0,none⟩))) (h:QS W w gp gm gr gq st va vw vb q)
  (hR:∀ w',KeptB W w' (fun q=>q=gp)→PXS w' gp gm st→jI w' W.heap.size (gp+1) va q.aggs (okS st)→kZ w' (gp+1) vw q.wh (okS st)→kZ w' (gp+1) vb q.bys (okS st)→R (.returned (.agg #[va,vw,vb,.int .i64 q.size,.int .i64 q.slide,.int .i64 q.delay,.int .i64 q.late])) w') :
  Code.wp Tryz.prog (.seq C24 .ret) (bodyPost Tryz.prog Tryz.f70 R) { tmps:=t.toArray,defers:=[] } w:=by
 have HR:=aa hR;have H:=aa h;clear h hR;have hsa:=kz H.out.ag;obtain ⟨a1,n1,c1,rfl⟩:=bR hsa;obtain ⟨a2,n2,c2,rfl⟩:=bR H.out.hw.1;obtain ⟨a3,n3,c3,rfl⟩:=bR H.out.hb.1;clear hsa;have Z:=aa (show BlkAt (((((((w.setCell ⟨gr,0,none⟩ (.slice a1 n1 c1)).setCell ⟨gr,1,none⟩ (.slice a2 n2 c2)).setCell ⟨gr,2,none⟩ (.slice a3 n3 c3)).setCell ⟨gr,3,none⟩ (.int .i64 q.size)).setCell ⟨gr,4,none⟩ (.int .i64 q.slide)).setCell ⟨gr,5,none⟩ (.int .i64 q.delay)).setCell ⟨gr,6,none⟩ (.int .i64 q.late)) gr [.slice a1 n1 c1,.slice a2 n2 c2,.slice a3 n3 c3,.int .i64 q.size,.int .i64 q.slide,.int .i64 q.delay,.int .i64 q.late] by simpa using (ay (ay (ay (ay (ay (ay (ay H.out.br 0 (.slice a1 n1 c1) (by simp)) 1 (.slice a2 n2 c2) (by simp)) 2 (.slice a3 n3 c3) (by simp)) 3 (.int .i64 q.size) (by simp)) 4 (.int .i64 q.slide) (by simp)) 5 (.int .i64 q.delay) (by simp)) 6 (.int .i64 q.late) (by simp)));have KG:Hid (KeptB w (((((((w.setCell ⟨gr,0,none⟩ (.slice a1 n1 c1)).setCell ⟨gr,1,none⟩ (.slice a2 n2 c2)).setCell ⟨gr,2,none⟩ (.slice a3 n3 c3)).setCell ⟨gr,3,none⟩ (.int .i64 q.size)).setCell ⟨gr,4,none⟩ (.int .i64 q.slide)).setCell ⟨gr,5,none⟩ (.int .i64 q.delay)).setCell ⟨gr,6,none⟩ (.int .i64 q.late)) (fun q=>q=gr)):=(ah (ah (ah (ah (ah (ah (ah (ae (bad:=fun q=>q=gr) (Below.refl w.heap.size w)) rfl 0 _) rfl 1 _) rfl 2 _) rfl 3 _) rfl 4 _) rfl 5 _) rfl 6 _);have d0:=H.out.bq.c 0 (by simp);have f0:=H.out.br.fz 0;have b0:=H.out.br.c 0 (by simp);have d1:=H.out.bq.c 1 (by simp);have f1:=H.out.br.fz 1;have b1:=H.out.br.c 1 (by simp);have d2:=H.out.bq.c 2 (by simp);have f2:=H.out.br.fz 2;have b2:=H.out.br.c 2 (by simp);have d3:=H.out.bq.c 3 (by simp);have f3:=H.out.br.fz 3;have b3:=H.out.br.c 3 (by simp);have d4:=H.out.bq.c 4 (by simp);have f4:=H.out.br.fz 4;have b4:=H.out.br.c 4 (by simp);have d5:=H.out.bq.c 5 (by simp);have f5:=H.out.br.fz 5;have b5:=H.out.br.c 5 (by simp);have d6:=H.out.bq.c 6 (by simp);have f6:=H.out.br.fz 6;have b6:=H.out.br.c 6 (by simp);simp only [List.getElem?_cons_zero,List.getElem?_cons_succ] at d0 b0 d1 b1 d2 b2 d3 b3 d4 b4 d5 b5 d6 b6;have l1:=H.out.lr;have l3:=H.out.lp;have AG:=aa (oF H.out.ag KG.out H.out.tr qty_node qty_agg);have AW:=aa (gW H.out.hw KG.out H.out.tr qty_node);have AB:=aa (gW H.out.hb KG.out H.out.tr qty_node);have AP:=aa (gR H.out.ps KG.out (by omega));have AK:=aa (cO H.out.kp KG.out l1);clear KG H;obtain ⟨f,hf,hi⟩:=listed t ht;have e0:=am (hi 0 (by decide)) k0;have e2:=am (hi 2 (by decide)) k2;have e3:=am (hi 3 (by decide)) k3;rw [e0,e2,e3] at hf;clear hi ht k0 e0 k2 e2 k3 e3;subst hf;unfold Tryz.f70 at h24
 simp [rgn] at h24
 subst h24;go_wp2_with fail;generalize (((((((w.setCell ⟨gr,0,none⟩ (.slice a1 n1 c1)).setCell ⟨gr,1,none⟩ (.slice a2 n2 c2)).setCell ⟨gr,2,none⟩ (.slice a3 n3 c3)).setCell ⟨gr,3,none⟩ (.int .i64 q.size)).setCell ⟨gr,4,none⟩ (.int .i64 q.slide)).setCell ⟨gr,5,none⟩ (.int .i64 q.delay)).setCell ⟨gr,6,none⟩ (.int .i64 q.late))=wz at *;have z0:=Z.out.c 0 (by simp);have z1:=Z.out.c 1 (by simp);have z2:=Z.out.c 2 (by simp);have z3:=Z.out.c 3 (by simp);have z4:=Z.out.c 4 (by simp);have z5:=Z.out.c 5 (by simp);have z6:=Z.out.c 6 (by simp);simp only [List.getElem?_cons_zero,List.getElem?_cons_succ] at z0 z1 z2 z3 z4 z5 z6;exact bodyPost_ret (v:=.agg #[.slice a1 n1 c1,.slice a2 n2 c2,.slice a3 n3 c3,.int .i64 q.size,.int .i64 q.slide,.int .i64 q.delay,.int .i64 q.late]) (by simp [results,Tryz.results70,go_sem,z0,z1,z2,z3,z4,z5,z6]) rfl (HR.out _ AK.out AP.out AG.out AW.out AB.out)
theorem quest_any (gp gm:Nat) (ws:Ws) (w:World) (h:PXS w gp gm (.ok ws)) :
  Calls Tryz.prog 70 #[.pointer (some ⟨gp,0,none⟩)] w fun r w'=>QuestR gp gm ws w r w':=by
 have hf:wlS (.ok ws)≤100:=by obtain ⟨wv,hp⟩:=h;exact hp.ps.few
 go_enter Tryz.func70,Tryz.ntmps70
 refine qStart _ _ _ (by kernel_rfl) _ (by kernel_rfl) _ gp gm (.ok ws) w rfl rfl h ?_;intro t1 w1 ht1 a0 a2 a3 h1;refine (wp_seq (qMust2 _ _ (by kernel_rfl) t1 gp gm _ _ _ _ _ _ _ w w1 ht1 a0 a2 a3 h1 ?_));intro t2 w2 ht2 a02 a22 a32 h2;refine aP (wp_seq (qAdd3 _ _ (by kernel_rfl) t2 gp gm _ _ _ _ _ _ _ w w2 ht2 a02 a22 a32 h2 (by simp) (bX eX) ?_));intro t3 va1 w3 ht3 a03 a23 a33 h3;refine aP (wp_seq (qLoop _ _ (by kernel_rfl) t3 gp gm _ _ FU _ _ _ _ _ w w3 ht3 a03 a23 a33 (by have:=mC (aY wSelect (.ok ws));have:=iR wSelect (.ok ws);unfold FU;omega) (by have:=mC (aY wSelect (.ok ws));have:=iR wSelect (.ok ws);simp;omega) h3 (bX eX) ?_));intro t4 va2 w4 ht4 a04 a24 a34 h4;refine aP (wp_seq (qMust6 _ _ (by kernel_rfl) t4 gp gm _ _ _ _ _ _ _ w w4 ht4 a04 a24 a34 h4 ?_));intro t5 w5 ht5 a05 a25 a35 h5;refine aP (wp_seq (qMust7 _ _ (by kernel_rfl) t5 gp gm _ _ _ _ _ _ _ w w5 ht5 a05 a25 a35 h5 ?_));intro t6 w6 ht6 a06 a26 a36 h6;refine aP (wp_seq (qOpt8 _ _ (by kernel_rfl) _ (by kernel_rfl) t6 gp gm _ _ _ _ _ _ _ w w6 rfl rfl ht6 a06 a26 a36 h6 ?_));intro t7 vw w7 ht7 a07 a27 a37 h7;refine aP (wp_seq (qOpt10 _ _ (by kernel_rfl) _ (by kernel_rfl) _ (by kernel_rfl) t7 gp gm _ _ _ _ _ _ _ w w7 rfl rfl ht7 a07 a27 a37 h7 ?_));intro t8 vb w8 ht8 a08 a28 a38 h8;refine aP (wp_seq (qMust13 _ _ (by kernel_rfl) t8 gp gm _ _ _ _ _ _ _ w w8 ht8 a08 a28 a38 h8 ?_));intro t9 w9 ht9 a09 a29 a39 h9;refine aP (qSize _ _ _ (by kernel_rfl) _ (by kernel_rfl) t9 gp gm _ _ _ _ _ _ _ w w9 ht9 a09 a29 a39 h9 ?_);intro t10 w10 ht10 a010 a210 a310 h10;refine (wp_seq (qOpt16 _ _ (by kernel_rfl) _ (by kernel_rfl) t10 gp gm _ _ _ _ _ _ _ w w10 ht10 a010 a210 a310 h10 ?_));intro t11 w11 ht11 a011 a211 a311 h11;refine aP (wp_seq (qOpt18 _ _ (by kernel_rfl) _ (by kernel_rfl) t11 gp gm _ _ _ _ _ _ _ w w11 ht11 a011 a211 a311 h11 ?_));intro t12 w12 ht12 a012 a212 a312 h12;refine aP (wp_seq (qOpt20 _ _ (by kernel_rfl) _ (by kernel_rfl) t12 gp gm _ _ _ _ _ _ _ w w12 ht12 a012 a212 a312 h12 ?_));intro t13 w13 ht13 a013 a213 a313 h13;refine aP (wp_seq (qEnds _ _ (by kernel_rfl) _ (by kernel_rfl) t13 gp gm _ _ _ _ _ _ _ w w13 ht13 a013 a213 a313 h13 ?_));intro t14 w14 ht14 a014 a214 a314 h14;exact aP (qFin _ _ (by kernel_rfl) t14 gp gm _ _ _ _ _ _ _ w w14 ht14 a014 a214 a314 h14 (fun w' k1 k2 k3 k4 k5=>⟨_,_,_,rfl,k1,k2,k3,k4,k5⟩))
theorem goes_any (op k:Int) (w:World) :
  Calls Tryz.prog 186 #[.int .i64 op,.int .i64 k] w fun e w'=>e=.returned (.bool (goes op k))∧w'=w:=by
 by_cases h4:op=4∨op=9∨op=10
 ·have e:goes op k=!(k == 1):=by unfold goes;rw [if_pos h4]
  rw [e]
  rcases h4 with rfl | rfl | rfl
  all_goals
   clear e
   go_enter Tryz.func186,Tryz.ntmps186
   go_wp2
   go_ret
   exact ⟨rfl,rfl⟩
 ·by_cases h5:op=5
  ·have e:goes op k=true:=by unfold goes;rw [if_neg h4,if_pos h5]
   rw [e];subst h5;clear e h4
   go_enter Tryz.func186,Tryz.ntmps186
   go_wp2
   go_ret
   exact ⟨rfl,rfl⟩
  ·have e:goes op k=!(k == 2):=by unfold goes;rw [if_neg h4,if_neg h5]
   rw [e];have g4:(op == 4)=false:=by simp;omega
   have g9:(op == 9)=false:=by simp;omega
   have g10:(op == 10)=false:=by simp;omega
   have g5:(op == 5)=false:=by simp;omega
   clear e h4 h5
   go_enter Tryz.func186,Tryz.ntmps186
   go_wp2
   go_ret
   exact ⟨rfl,rfl⟩
theorem kindOf_any (n:Nd) (w:World) :
  Calls Tryz.prog 174 #[fV n] w fun e w'=>e=.returned (.int .i64 (kindN n))∧Below w.heap.size w w':=by
 obtain ⟨op,x,y,nn,k,v⟩:=n;unfold fV
 simp only
 have H0:Hid (Below w.heap.size w (w.alloc (.cells #[.int .i64 op,.int .i64 x,.int .i64 y,.int .i64 nn,.int .i64 k,.int .i64 v] 153))):=(Below.refl _ _).alloc (Nat.le_refl _) _
 by_cases h1:op=1
 ·have e:kindN ⟨op,x,y,nn,k,v⟩=k:=by unfold kindN;rw [if_pos h1]
  rw [e];have g1:(op == 1)=true:=by simp [h1]
  clear h1 e
  go_enter Tryz.func174,Tryz.ntmps174
  go_wp2
  go_ret
  exact ⟨rfl,H0.out⟩
 ·have g1:(op == 1)=false:=by simp [h1]
  by_cases h2:op=4∨op=5∨op=9∨op=10∨op=11∨op=12
  ·have e:kindN ⟨op,x,y,nn,k,v⟩=2:=by unfold kindN;rw [if_neg h1,if_pos h2]
   rw [e];clear h1 g1 e
   rcases h2 with rfl | rfl | rfl | rfl | rfl | rfl
   all_goals
    go_enter Tryz.func174,Tryz.ntmps174
    go_wp2
    go_ret
    exact ⟨rfl,H0.out⟩
  ·have e:kindN ⟨op,x,y,nn,k,v⟩=1:=by unfold kindN;rw [if_neg h1,if_neg h2]
   rw [e];have g4:(op == 4)=false:=by simp;omega
   have g5:(op == 5)=false:=by simp;omega
   have g9:(op == 9)=false:=by simp;omega
   have g10:(op == 10)=false:=by simp;omega
   have g11:(op == 11)=false:=by simp;omega
   have g12:(op == 12)=false:=by simp;omega
   clear h1 h2 e
   go_enter Tryz.func174,Tryz.ntmps174
   go_wp2
   go_ret
   exact ⟨rfl,H0.out⟩
def pZ (op:Int) (ks:List Int):List Int→Bool
 | []=>true
 | p :: ps=>if oD op ks p then pZ op ks ps else false
theorem fitS_is (n:Nd) (ks:List Int):pZ n.op ks (partsN n)=qA n ks:=by
 unfold partsN qA
 by_cases h1:ar n.op=1
 ·rw [if_pos h1,if_pos h1];simp only [pZ];cases oD n.op ks n.x <;> rfl
 ·rw [if_neg h1,if_neg h1]
  by_cases h2:ar n.op=2
  ·rw [if_pos h2,if_pos h2];simp only [pZ];cases oD n.op ks n.y <;> cases oD n.op ks n.x <;> rfl
  ·rw [if_neg h2,if_neg h2]
   rfl
theorem partsFit_any (n:Nd) (ks:List Int) (v:Value) (w:World) (hl:ks.length≤1000) (hr:bT w v 1 ks.length (ks.map (Value.int .i64))) :
  Calls Tryz.prog 173 #[fV n,v] w fun e w'=>e=.returned (.bool (qA n ks))∧Below w.heap.size w w':=by
 obtain ⟨ao,cap,rfl⟩:=aq hr;have HR:=aa hr;clear hr;rw [← fitS_is];have H0:Hid (Below w.heap.size w (w.alloc (.cells #[.int .i64 n.op,.int .i64 n.x,.int .i64 n.y,.int .i64 n.n,.int .i64 n.k,.int .i64 n.v] 153))):=(Below.refl _ _).alloc (Nat.le_refl _) _;have HL:=aa (gw n (w.alloc (.cells #[.int .i64 n.op,.int .i64 n.x,.int .i64 n.y,.int .i64 n.n,.int .i64 n.k,.int .i64 n.v] 153)));have h2:(partsN n).length≤2:=by unfold partsN;(repeat' split);all_goals simp
 unfold fV at HL ⊢;generalize hT:pZ n.op ks (partsN n)=T;have HT:=aa hT;clear hT;generalize partsN n=ps at *
 go_enter Tryz.func173,Tryz.ntmps173
 go_wp2_with fail;refine HL.out.mono ?_;rintro e w1 ⟨u,rfl,hr,hb⟩;obtain ⟨ao1,cap1,rfl⟩:=aq hr;have HB0:=aa hb;have HB:=aa (H0.out.trans (hb.mono H0.out.size));have HR:=aa (aA HR.out HB.out);have HP:=aa hr;have hop:w1.cell? ⟨w.heap.size,0,none⟩=some (.int .i64 n.op):=by rw [hb.cell (p:=⟨w.heap.size,0,none⟩) (by simp)];go_simp
 clear hr hb HL H0;go_wp2_with fail;have kn:=bG w1;obtain ⟨kc,kf⟩:=bn w1;have hsw:w.heap.size < w1.heap.size:=by
  have:=HB0.out.size
  simp only [World.size_alloc] at this;omega
 go_loopw [10] (fun i wr=>∃ m:Nat,m≤ps.length∧i=.int .i64 m∧Hid (Below w1.heap.size w1 wr)∧Hid (pZ n.op ks (ps.drop m)=T)) (fun i _=>ps.length - (intOf i).toNat)
 case atStart=>exact ⟨0,Nat.zero_le _,rfl,Below.refl _ _,HT⟩
 case round =>
  clear HT;obtain ⟨m,hm,rfl,HBr,HS⟩:=hrel;obtain ⟨hc,hf'⟩:=rules HBr
  by_cases hlt:m < ps.length
  ·obtain ⟨g,off,x,rfl,hx,cx,l1,l2,l3⟩:=db HP.out m hlt;rw [List.getElem?_map,List.getElem?_eq_getElem hlt] at hx;simp only [Option.map_some,Option.some.injEq] at hx;subst hx;have hS:=HS.out;rw [List.drop_eq_getElem_cons hlt] at hS;generalize ps[m]=p at *;simp only [pZ] at hS;unfold maxLen at l2
   by_cases h0:p < 0
   ·have e:T=false:=by rw [← hS];unfold oD;rw [if_pos (Or.inl h0)];rfl
    subst e;clear hS HS;go_wp2_with fail;refine aD HBr (by kernel_rfl) (by kernel_rfl) ?_
    repeat (go_big_quiet_step (fail))
    refine wpQuiet_nil ?_;rintro _ ⟨pk,rfl⟩;have HBr:Hid _:=pk.h;go_wp2_with fail
    go_ret
    exact ⟨rfl,done HB.out HBr⟩
   ·by_cases h1:(ks.length:Int)≤p
    ·have e:T=false:=by rw [← hS];unfold oD;rw [if_pos (Or.inr h1)];rfl
     subst e;have z0:decide (p < 0)=false:=by simpa using h0
     clear hS HS h0;go_wp2_with fail;refine aD HBr (by kernel_rfl) (by kernel_rfl) ?_
     repeat (go_big_quiet_step (fail))
     refine wpQuiet_nil ?_;rintro _ ⟨pk,rfl⟩;have HBr:Hid _:=pk.h;go_wp2_with fail
     go_ret
     exact ⟨rfl,done HB.out HBr⟩
    ·obtain ⟨d,rfl⟩:∃ d:Nat,p=(d:Int):=⟨p.toNat,by omega⟩;have hd:d < ks.length:=by omega
     obtain ⟨g2,off2,x2,rfl,hx2,cx2,l12,l22,l32⟩:=db HR.out d hd;rw [List.getElem?_map,List.getElem?_eq_getElem hd] at hx2;simp only [Option.map_some,Option.some.injEq] at hx2;subst hx2;have hf:oD n.op ks (d:Int)=goes n.op ks[d]:=by
      unfold oD;rw [if_neg (by omega),List.getD_eq_getElem?_getD,Int.toNat_natCast,List.getElem?_eq_getElem hd];rfl
     rw [hf] at hS;generalize ks[d]=q at *;unfold maxLen at l22;have HG:=aa (fun w=>goes_any n.op q w);have z0:decide ((d:Int) < 0)=false:=by simp
     have z1:decide (ks.length≤d)=false:=by simp;omega
     have z2:decide ((ks.length:Int)≤(d:Int))=false:=by simp;omega
     clear hf h0 h1;cases hg:goes n.op q
     ·rw [hg] at hS HG;simp only [Bool.false_eq_true,if_false] at hS;subst hS;clear hg HS;go_wp2_with fail;refine aD HBr (by kernel_rfl) (by kernel_rfl) ?_
      repeat (go_big_quiet_step ((go_at_call 186;exact nG (HG.out _))))
      refine wpQuiet_nil ?_;rintro _ ⟨pk,rfl⟩;have HBr:Hid _:=pk.h;go_wp2_with fail
      go_ret
      exact ⟨rfl,done HB.out HBr⟩
     ·rw [hg] at hS HG;simp only [if_true] at hS;have HS:=aa hS;clear hg hS;go_wp2_with fail;refine aD HBr (by kernel_rfl) (by kernel_rfl) ?_
      repeat (go_big_quiet_step ((go_at_call 186;exact nG (HG.out _))))
      refine wpQuiet_nil ?_;rintro _ ⟨pk,rfl⟩;have HBr:Hid _:=pk.h;go_wp2_with fail;go_roundw
      case rel=>exact ⟨m+1,by omega,by go_num,HBr,HS⟩
      case measure=>simp [intOf];omega
  ·have e:T=true:=by
    have:=HS.out
    rw [List.drop_eq_nil_of_le (by omega)] at this;exact this.symm
   subst e;go_wp2_with fail
   go_ret
   exact ⟨rfl,done HB.out HBr⟩
def tyO (n:Nat):Option (List Int)→V2
 | none=>(0,3)
 | some ks=>(ks.getD (n - 1) 0,0)
theorem type_any (l:List Nd) (v:Value) (w:World) (hl:l.length≤1000) (hr:bT w v 6 l.length (eT l)) :
  Calls Tryz.prog 157 #[v] w fun e w'=>e=.returned (.tuple #[.int .i64 (tyE l).1,errC (tyE l).2])∧Below w.heap.size w w':=by
 obtain ⟨ao,cap,rfl⟩:=aq hr;obtain ⟨i0,hi,hz0,hz1,hz2⟩:=info_parts infoI;have HR:=aa hr;clear hr
 by_cases h0:l.length=0
 ·have e:tyE l=(0,3):=by unfold tyE;rw [if_pos h0]
  rw [e];have z:((l.length:Int) == 0)=true:=by simp [h0]
  clear e h0
  go_enter Tryz.func157,Tryz.ntmps157
  go_wp2_with fail
  go_ret2
  exact ⟨rfl,Below.refl _ _⟩
 ·have z:((l.length:Int) == 0)=false:=by rw [beq_eq_false_iff_ne];omega
  have hT:tyE l=tyO l.length (tyF l []):=by
   unfold tyE;rw [if_neg h0];cases tyF l [] <;> rfl
  rw [hT];clear hT;generalize hF:tyF l []=T;have HF:=aa hF;clear hF
  go_enter Tryz.func157,Tryz.ntmps157
  go_wp2_with (at_make;go_must (refine wpList_make_own _ rfl _ _ 56 rfl w.heap.size 3 i0 (.int .i64 0) 1 Tryz.underlying56 hi hz0 hz1 .i64 .i64 _ l.length rfl rfl rfl (by rw [hz2];omega) (by show _≤2 ^ 63 - 1;omega) (Nat.le_refl _) ?_))
  intro w0 ho0 hg0;have HB0:Hid (Below w.heap.size w w0):=(Below.refl _ _).grown hg0 (Nat.le_refl _) (fun k hk=>by cases hk);have HO0:=aa ho0;clear ho0 hg0;go_wp2_with fail
  go_loopw [4,16] (fun v i wr=>∃ (m:Nat) (ks:List Int),m≤l.length∧ks.length=m∧i=.int .i64 m∧Hid (wr.ownsRow w.heap.size 3 1 v ks.length (ks.map (Value.int .i64)))∧Hid (Below w.heap.size w wr)∧Hid (tyF (l.drop m) ks=T)) (fun _ i _=>l.length - (intOf i).toNat)
  case atStart=>exact ⟨0,[],Nat.zero_le _,rfl,rfl,HO0,HB0,HF⟩
  case round =>
   clear HF HB0 HO0;obtain ⟨m,ks,hm,rfl,rfl,HO,HB,HS⟩:=hrel;obtain ⟨ao2,cap2,rfl⟩:=ax HO.out
   by_cases hlt:ks.length < l.length
   ·obtain ⟨g,off,rfl,hnode,l1,l2,l3⟩:=gE HR.out _ hlt;have hS:=HS.out;rw [List.drop_eq_getElem_cons hlt] at hS;generalize l[ks.length]=nd at *;obtain ⟨n0,n1,n2,n3,n4,n5⟩:=eE hnode HB.out l3;clear hnode;unfold maxLen at l2;simp only [tyF] at hS;go_wp2_with fail;refine (partsFit_any nd ks _ _ (by omega) (aE (HO.out.alloc _))).mono ?_;rintro e w1 ⟨rfl,hb1⟩;have HB1:=nxt (nxta HB (.cells #[.int .i64 nd.op,.int .i64 nd.x,.int .i64 nd.y,.int .i64 nd.n,.int .i64 nd.k,.int .i64 nd.v] 153)) hb1;have HO1:=aa (aC (HO.out.alloc _) hb1 (Nat.le_refl _));obtain ⟨hc1,hf1⟩:=bcell hb1;clear hb1;cases hfit:qA nd ks
    ·rw [hfit] at hS;simp only [Bool.false_eq_true,if_false] at hS;subst hS;clear hfit HS;go_wp2_with fail
     go_ret2
     exact ⟨rfl,HB1.out⟩
    ·rw [hfit] at hS;simp only [if_true] at hS;have HS2:Hid (tyF (List.drop (ks.length+1) l) (ks++[kindN nd])=T):=hS;clear hS hfit HS;go_wp2_with fail;refine (kindOf_any nd _).mono ?_;rintro e w2 ⟨rfl,hb2⟩;have HB2:=nxt HB1 hb2;have HO2:=aa (aC HO1.out hb2 (Nat.le_refl _));clear hb2 hc1 hf1;generalize kindN nd=q at *
     go_wp2_with (at_builtin;go_must (refine wpList_append_own _ rfl (.tmp 25) (.tmp 28) 56 rfl w.heap.size 3 i0 (.int .i64 0) 1 8 Tryz.underlying56 hi hz0 hz1 hz2 rfl (by decide) _ _ _ rfl (HO2.out.alloc _) ⟨w2.heap.size,0,none⟩ 1 1 [.int .i64 q] rfl rfl (eW _ _ _) (by intro u hu;simp at hu;subst hu;rfl) (by show _≤2 ^ 63 - 1;omega) (by omega) (by have:=HB2.out.size;simp;omega) ?_))
     intro v' w3 ho3 hg3 _;have ho4:w3.ownsRow w.heap.size 3 1 v' (ks++[q]).length ((ks++[q]).map (Value.int .i64)):=by simpa using ho3
     have HO3:=aa ho4;have HB3:Hid (Below w.heap.size w w3):=(HB2.out.alloc HB2.out.size _).grown hg3 (by have:=HB2.out.size;simp;omega) (fun k hk=>(HO2.out.lt k hk).1);clear ho3 hg3 ho4;go_wp2_with fail;go_roundw
     case rel=>exact ⟨ks.length+1,ks++[q],by omega,by simp,by go_num,HO3,HB3,HS2⟩
     case measure=>simp [intOf];omega
   ·have hS:=HS.out;rw [List.drop_eq_nil_of_le (by omega)] at hS;simp only [tyF] at hS;subst hS;obtain ⟨d,hd⟩:∃ d,l.length=d+1:=⟨l.length - 1,by omega⟩;have hdb:d < ks.length:=by omega
    obtain ⟨g2,off2,x2,rfl,hx2,cx2,l12,l22,l32⟩:=db (aE HO.out) d hdb;rw [List.getElem?_map,List.getElem?_eq_getElem hdb] at hx2;simp only [Option.map_some,Option.some.injEq] at hx2;subst hx2;have HX:Hid (tyO l.length (some ks)=(ks[d],0)):=by
     show _=_
     show ((ks.getD (l.length - 1) 0:Int),(0:Int))=_
     rw [hd,Nat.add_sub_cancel,List.getD_eq_getElem?_getD,List.getElem?_eq_getElem hdb];rfl
    have hd2:ks.length=d+1:=by omega
    generalize ks[d]=q at *;unfold maxLen at l22;clear HS h0;go_wp2_with fail
    go_ret2
    exact ⟨by rw [HX.out];rfl,HB.out⟩
end Go.Proofs.YtcgjflamgnjhcaaGreatDoor

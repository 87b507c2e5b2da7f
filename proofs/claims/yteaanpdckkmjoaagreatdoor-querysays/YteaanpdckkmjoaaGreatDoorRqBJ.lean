/- Several texts in one, each with its own head. What is proved: what the parts say. Conditions: theirs. -/
import Derived.Test.YteaanpdckkmjoaaGreatDoorPrs3J
set_option linter.unusedVariables false
set_option linter.unusedSimpArgs false
set_option maxRecDepth 100000
set_option maxHeartbeats 8000000
namespace Go.Proofs.YteaanpdckkmjoaaGreatDoor
open Go.ChangeShapes Go.WideShapes Go.ChangeAt Go.RowKit
def mustR (word : ByteArray) (r : PR) : PR:=match r with
 | .error c => .error c
 | .ok (x,ws) => match tk word ws with
  | none => .error 4
  | some ws1 => .ok (x,ws1)
theorem mustR_close (r : PR) : mustR wClose r = closeP r:=by
 unfold mustR closeP
 cases r with
 | error c => rfl
 | ok p => rfl
theorem rlu_must (g : Nat) (word : ByteArray) (hw0 : word ≠ ⟨#[]⟩) (u wv : Value) (all : Ws) (hne : ∀ x ∈ all,x ≠ ⟨#[]⟩) (d : Int) (res : PR) (w w3 : World) (h : RLu w w3 g wv all d res u) :
  Calls Tryz.prog 33 #[.pointer (some ⟨g,0,none⟩),.string word] w3 fun r w' => r = .returned (.tuple #[]) ∧ RLu w3 w' g wv all d (mustR word res) u:=by
 obtain ⟨-,n',h⟩:=h
 cases res with
 | ok p =>
  obtain ⟨l,ws2⟩:=p
  obtain ⟨hn,hd⟩:=h
  refine (rmust_any g word hw0 wv all hne n' ws2 d 0 w3 hd).mono ?_
  rintro r w' ⟨rfl,hk,hp⟩
  refine ⟨rfl,hk,?_⟩
  have e : mustR word (.ok (l,ws2)) = (match tk word ws2 with | none => .error 4 | some ws1 => .ok (l,ws1)):=rfl
  rw [e]
  cases ht : tk word ws2 with
  | none =>
   rw [ht] at hp
   exact ⟨n',by decide,hp⟩
  | some ws1 =>
   rw [ht] at hp
   exact ⟨n' + 1,nds_kept hn hk (fun k e => by omega),hp⟩
 | error c =>
  obtain ⟨hc,hd⟩:=h
  refine (rmust_any g word hw0 wv all hne n' [] d c w3 hd).mono ?_
  rintro r w' ⟨rfl,hk,hp⟩
  have hp2 : RD w' g wv all n' [] d (errN c 4):=hp
  rw [errN_ne (by omega)] at hp2
  exact ⟨rfl,hk,n',hc,hp2⟩
theorem rlu_dec (g : Nat) (u wv : Value) (all : Ws) (d d' : Int) (res : PR) (w w3 : World) (h : RLu w w3 g wv all d res u) :
  RLu w3 (w3.setCell ⟨g,2,none⟩ (.int .i64 d')) g wv all d' res u:=by
 obtain ⟨-,n',h⟩:=h
 cases res with
 | ok p =>
  obtain ⟨l,ws2⟩:=p
  obtain ⟨hn,hd⟩:=h
  have B2:=blk_set hd.bd 2 (.int .i64 d') (by simp)
  have P2:=rd_set hd 2 (.int .i64 d') (n':=n') (ws':=ws2) (d':=d') (e':=0) (by simpa using B2) hd.le (Int.le_refl _) hd.ws0
  exact ⟨P2.2,n',nds_kept hn P2.2 (fun k e => by omega),P2.1⟩
 | error c =>
  obtain ⟨hc,hd⟩:=h
  have B2:=blk_set hd.bd 2 (.int .i64 d') (by simp)
  have P2:=rd_set hd 2 (.int .i64 d') (n':=n') (ws':=[]) (d':=d') (e':=c) (by simpa using B2) hd.le hd.ep hd.ws0
  exact ⟨P2.2,n',hc,P2.1⟩
theorem rlu_put1 (g : Nat) (op : Int) (ho : ar op = 1) (u : Value) (hs : isSl u = true) (wv : Value) (all : Ws) (d : Int) (res : PR) (w w3 : World) (h : RLu w w3 g wv all d res u) :
  Calls Tryz.prog 59 #[.pointer (some ⟨g,0,none⟩),.int .i64 op,u,.slice none 0 0] w3 fun r w' => ∃ v',r = .returned v' ∧ isSl v' = true ∧ RLu w3 w' g wv all d (aheadP op res) v':=by
 obtain ⟨-,n',h⟩:=h
 cases res with
 | ok p =>
  obtain ⟨l,ws2⟩:=p
  obtain ⟨hn,hd⟩:=h
  exact rput1_any g op ho u wv all n' ws2 _ _ hd l hn
 | error c =>
  obtain ⟨hc,hd⟩:=h
  exact rput_bad g op u _ wv hs all n' [] _ c (by omega) _ hd
def putP (op : Int) (x : List Nd) (r : PR) : PR:=match r with
 | .error c => .error c
 | .ok (y,ws) => wth ws (jn2 op x y)
def putT (op : Int) (x : List Nd) (r : PR) : PR:=match r with
 | .error c => .error c
 | .ok (y,ws) => wth ws (jn2 op y x)
theorem rlu_put2 (g : Nat) (op : Int) (ho : ar op = 2) (u v : Value) (hs : isSl u = true) (x : List Nd) (wv : Value) (all : Ws) (d : Int) (res : PR) (w w3 : World) (hu : NdsR w3 (g + 1) u x) (h : RLu w w3 g wv all d res v) :
  Calls Tryz.prog 59 #[.pointer (some ⟨g,0,none⟩),.int .i64 op,u,v] w3 fun r w' => ∃ v',r = .returned v' ∧ isSl v' = true ∧ RLu w3 w' g wv all d (putP op x res) v':=by
 obtain ⟨-,n',h⟩:=h
 cases res with
 | ok p =>
  obtain ⟨l,ws2⟩:=p
  obtain ⟨hn,hd⟩:=h
  exact rput2_any g op ho u v wv all n' ws2 _ _ hd x l hu hn
 | error c =>
  obtain ⟨hc,hd⟩:=h
  exact rput_bad g op u _ wv hs all n' [] _ c (by omega) _ hd
theorem rlu_put2t (g : Nat) (op : Int) (ho : ar op = 2) (u v : Value) (hs : isSl v = true) (x : List Nd) (wv : Value) (all : Ws) (d : Int) (res : PR) (w w3 : World) (hu : NdsR w3 (g + 1) u x) (h : RLu w w3 g wv all d res v) :
  Calls Tryz.prog 59 #[.pointer (some ⟨g,0,none⟩),.int .i64 op,v,u] w3 fun r w' => ∃ v',r = .returned v' ∧ isSl v' = true ∧ RLu w3 w' g wv all d (putT op x res) v':=by
 obtain ⟨-,n',h⟩:=h
 cases res with
 | ok p =>
  obtain ⟨l,ws2⟩:=p
  obtain ⟨hn,hd⟩:=h
  exact rput2_any g op ho v u wv all n' ws2 _ _ hd l x hn hu
 | error c =>
  obtain ⟨hc,hd⟩:=h
  exact rput_bad g op v _ wv hs all n' [] _ c (by omega) _ hd
theorem rlu_nds {w w3 : World} {g : Nat} {wv : Value} {all : Ws} {d : Int} {res : PR} {v u : Value} {x : List Nd} (h : RLu w w3 g wv all d res v) (hu : NdsR w (g + 1) u x) : NdsR w3 (g + 1) u x:=nds_kept hu h.1 (fun k e => by omega)
theorem rrest_open (g : Nat) (wv : Value) (all : Ws) (hne : ∀ x ∈ all,x ≠ ⟨#[]⟩) (n : Nat) (ws ws1 : Ws) (D : Nat) (hD : D ≤ 12) (w : World) (h : RD w g wv all n ws (D : Int) 0) (ht : tk wOpen ws = some ws1) (res : PR)
  (hr : D ≠ 12 → ∀ w1 n',RD w1 g wv all n' ws1 ((D : Int) + 1) 0 → Calls Tryz.prog 36 #[.pointer (some ⟨g,0,none⟩),.int .i64 0] w1 fun r w' => ∃ v,r = .returned v ∧ isSl v = true ∧ RLu w1 w' g wv all ((D : Int) + 1) res v) :
  Calls Tryz.prog 61 #[.pointer (some ⟨g,0,none⟩)] w fun r w' => ∃ v,r = .returned v ∧ isSl v = true ∧ RLu w w' g wv all (D : Int) (closeP (if D = 12 then .error 2 else res)) v:=by
 have NX:=hidE (rnext_any g wv all n ws (D : Int) 0 w h)
 have H:=hidE h
 have TK:=fun w hp => rtake_any g wOpen (by decide) wv all hne n ws (D : Int) 0 w hp
 unfold RTakeR at TK
 simp only [ht] at TK
 unfold wOpen at TK
 have TK:=hidE TK
 have LV:=hidE (rin_level g 0 wv all (n + 1) ws1 D hD res (fun hd w1 hp => hr hd w1 _ hp))
 have HD:=hidT hD
 have HNE:=hidE hne
 generalize (if D = 12 then (Except.error 2 : PR) else res) = R2 at *
 clear h hr ht hne hD
 go_enter Tryz.func61,Tryz.ntmps61
 go_wp2_with fail
 refine NX.out.mono ?_
 rintro r w0 ⟨rfl,hb⟩
 have TK0:=hidE (TK.out w0 (rd_kept H.out hb))
 have HB0 : Hid (KeptB w w0 (fun q => q = g)):=keptB_of_below hb
 clear hb NX TK
 go_wp2_with fail
 refine TK0.out.mono ?_
 rintro r w1 ⟨rfl,hk,hp⟩
 have HK:=hidE (keptB_trans HB0.out hk)
 have IN:=hidE (rin_any g wv all (n + 1) ws1 (D : Int) 0 w1 hp (by omega) (by have:=HD.out;omega))
 clear hk hp TK0 HB0
 go_wp2_with fail
 refine IN.out.mono ?_
 rintro r w2 ⟨rfl,hk,hp⟩
 have HK2:=hidE (keptB_trans HK.out hk)
 have LV2:=hidE (LV.out w2 hp)
 clear hk hp IN LV HK
 go_wp2_with fail
 refine LV2.out.mono ?_
 rintro r w3 ⟨v,rfl,hs,hR⟩
 obtain ⟨a,m,c,rfl⟩:=sl_shape hs
 have c2:=rlu_deep hR
 have f2:=rlu_fz hR
 have DC:=rlu_dec g (.slice a m c) wv all _ (D : Int) _ w2 w3 hR
 have MU:=hidE (rlu_must g wClose (by decide) (.slice a m c) wv all HNE.out _ _ _ _ DC)
 have HK3:=hidE (keptB_trans (keptB_trans HK2.out hR.1) DC.1)
 clear hR hs LV2 HK2 DC
 have hD9 : D ≤ 12:=HD.out
 go_wp2_with fail
 refine MU.out.mono ?_
 rintro r w4 ⟨rfl,hR⟩
 have HRR:=hidE (rlu_from HK3.out hR)
 clear hR MU HK3
 go_wp2_with fail
 go_ret
 rw [← mustR_close]
 exact ⟨_,rfl,rfl,HRR.out⟩
theorem keptB_q {w w1 w2 : World} {gp : Nat} (h : Below w.heap.size w w1) (k : KeptB w1 w2 (fun q => q = gp)) : KeptB w w2 (fun q => q = gp):=keptB_trans (keptB_of_below h) k
def ErrR (w w' : World) (gp gm : Nat) (d e : Int) (r : Ending) : Prop:=KeptB w w' (fun q => q = gp) ∧ ∃ v wv',r = .returned v ∧ isSl v = true ∧ PS w' gp gm wv' [] d e
theorem joinBy_err00 (gp gm : Nat) (rank op : Int) (u v wv : Value) (ws : Ws) (d e : Int) (he : e ≠ 0) (w : World) (h : PS w gp gm wv ws d e) :
  Calls Tryz.prog 99 #[.pointer (some ⟨gp,0,none⟩),.agg #[.int .i64 rank,.int .i64 op,.bool false,.bool false],u,v] w fun r w' => ErrR w w' gp gm d e r:=by
 have h0:=h.e0 he
 subst h0
 have BA:=hidE (below_alloc w (.cells #[.int .i64 rank,.int .i64 op,.bool false,.bool false] 96))
 have H0:=hidE (ps_kept h BA.out)
 have J1:=hidE (join_err gp gm op u v wv [] d e he _ H0.out)
 have HE:=hidE he
 clear h he
 go_enter Tryz.func99,Tryz.ntmps99
 go_wp2_with fail
 refine J1.out.mono ?_
 rintro r w1 ⟨rfl,hb⟩
 have B1:=hidE (BA.out.trans (hb.mono BA.out.size))
 have H1:=hidE (ps_kept H0.out hb)
 obtain ⟨jc,jf⟩:=bcell hb
 clear hb J1
 go_wp2_with fail
 go_ret
 exact ⟨keptB_of_below B1.out,_,wv,rfl,rfl,H1.out⟩
theorem joinBy_ok00 (gp gm : Nat) (rank op : Int) (ho : ar op = 2) (u v wv : Value) (l m : List Nd) (ws : Ws) (d : Int) (w : World) (h : PS w gp gm wv ws d 0) (hu : NdsR w (gp + 1) u l) (hv : NdsR w (gp + 1) v m) :
  Calls Tryz.prog 99 #[.pointer (some ⟨gp,0,none⟩),.agg #[.int .i64 rank,.int .i64 op,.bool false,.bool false],u,v] w fun r w' => PRR w w' gp gm d (wth ws (jnS ⟨rank,op,false,false⟩ l m)) r:=by
 have BA:=hidE (below_alloc w (.cells #[.int .i64 rank,.int .i64 op,.bool false,.bool false] 96))
 have H0:=hidE (ps_kept h BA.out)
 have kf : KeptB w (w.alloc (.cells #[.int .i64 rank,.int .i64 op,.bool false,.bool false] 96)) (fun _ => False):=keptB_of_below BA.out
 have J1:=hidE (join2_any gp gm op ho u v wv l m ws d _ H0.out (nds_kept hu kf (fun k e => e.elim)) (nds_kept hv kf (fun k e => e.elim)))
 have EJ : Hid (jnS ⟨rank,op,false,false⟩ l m = jnD false (jn2 op l m)):=rfl
 have hlt:=h.bd.lt
 rw [EJ.out]
 clear h hu hv kf EJ
 generalize hj : jn2 op l m = J at *
 clear hj
 go_enter Tryz.func99,Tryz.ntmps99
 go_wp2_with fail
 refine J1.out.mono ?_
 rintro r w1 ⟨hk,hr⟩
 have K1:=hidE (keptB_q BA.out hk)
 have c3 : w1.cell? ⟨w.heap.size,3,none⟩ = some (.bool false):=by
  rw [kept_cell hk 3 (by simp) (by omega)]
  simp
 clear J1 hk
 cases J with
 | error c9 =>
  obtain ⟨v',wv',rfl,hc,hp⟩:=hr
  have HP:=hidE hp
  have HC:=hidE hc
  clear hp hc
  go_wp2_with fail
  go_ret
  exact ⟨K1.out,_,wv',rfl,HC.out,HP.out⟩
 | ok z =>
  obtain ⟨v',wv',rfl,hn,hp⟩:=hr
  have HP:=hidE hp
  have HN:=hidE hn
  clear hp hn
  go_wp2_with fail
  go_ret
  exact ⟨K1.out,_,wv',rfl,HN.out,HP.out⟩
theorem joinBy_err01 (gp gm : Nat) (rank op : Int) (u v wv : Value) (ws : Ws) (d e : Int) (he : e ≠ 0) (w : World) (h : PS w gp gm wv ws d e) :
  Calls Tryz.prog 99 #[.pointer (some ⟨gp,0,none⟩),.agg #[.int .i64 rank,.int .i64 op,.bool false,.bool true],u,v] w fun r w' => ErrR w w' gp gm d e r:=by
 have h0:=h.e0 he
 subst h0
 have BA:=hidE (below_alloc w (.cells #[.int .i64 rank,.int .i64 op,.bool false,.bool true] 96))
 have H0:=hidE (ps_kept h BA.out)
 have J1:=hidE (join_err gp gm op u v wv [] d e he _ H0.out)
 have HE:=hidE he
 clear h he
 go_enter Tryz.func99,Tryz.ntmps99
 go_wp2_with fail
 refine J1.out.mono ?_
 rintro r w1 ⟨rfl,hb⟩
 have B1:=hidE (BA.out.trans (hb.mono BA.out.size))
 have H1:=hidE (ps_kept H0.out hb)
 obtain ⟨jc,jf⟩:=bcell hb
 clear hb J1
 have J2:=hidE (join_err gp gm 4 (.slice none 0 0) (.slice none 0 0) wv [] d e HE.out w1 H1.out)
 go_wp2_with fail
 refine J2.out.mono ?_
 rintro r w2 ⟨rfl,hb⟩
 have B2:=hidE (B1.out.trans (hb.mono B1.out.size))
 have H2:=hidE (ps_kept H1.out hb)
 clear hb J2
 go_wp2_with fail
 go_ret
 exact ⟨keptB_of_below B2.out,_,wv,rfl,rfl,H2.out⟩
theorem joinBy_ok01 (gp gm : Nat) (rank op : Int) (ho : ar op = 2) (u v wv : Value) (l m : List Nd) (ws : Ws) (d : Int) (w : World) (h : PS w gp gm wv ws d 0) (hu : NdsR w (gp + 1) u l) (hv : NdsR w (gp + 1) v m) :
  Calls Tryz.prog 99 #[.pointer (some ⟨gp,0,none⟩),.agg #[.int .i64 rank,.int .i64 op,.bool false,.bool true],u,v] w fun r w' => PRR w w' gp gm d (wth ws (jnS ⟨rank,op,false,true⟩ l m)) r:=by
 have BA:=hidE (below_alloc w (.cells #[.int .i64 rank,.int .i64 op,.bool false,.bool true] 96))
 have H0:=hidE (ps_kept h BA.out)
 have kf : KeptB w (w.alloc (.cells #[.int .i64 rank,.int .i64 op,.bool false,.bool true] 96)) (fun _ => False):=keptB_of_below BA.out
 have J1:=hidE (join2_any gp gm op ho u v wv l m ws d _ H0.out (nds_kept hu kf (fun k e => e.elim)) (nds_kept hv kf (fun k e => e.elim)))
 have EJ : Hid (jnS ⟨rank,op,false,true⟩ l m = jnD true (jn2 op l m)):=rfl
 have hlt:=h.bd.lt
 rw [EJ.out]
 clear h hu hv kf EJ
 generalize hj : jn2 op l m = J at *
 clear hj
 go_enter Tryz.func99,Tryz.ntmps99
 go_wp2_with fail
 refine J1.out.mono ?_
 rintro r w1 ⟨hk,hr⟩
 have K1:=hidE (keptB_q BA.out hk)
 have c3 : w1.cell? ⟨w.heap.size,3,none⟩ = some (.bool true):=by
  rw [kept_cell hk 3 (by simp) (by omega)]
  simp
 clear J1 hk
 cases J with
 | error c9 =>
  obtain ⟨v',wv',rfl,hc,hp⟩:=hr
  have HP:=hidE hp
  have HC:=hidE hc
  clear hp hc
  have J2:=hidE (join_err gp gm 4 v' (.slice none 0 0) wv' [] d c9 HC.out.1 w1 HP.out)
  go_wp2_with fail
  refine J2.out.mono ?_
  rintro r w2 ⟨rfl,hb⟩
  have K2:=hidE (keptB_trans K1.out (keptB_of_below (bad:=fun q => q = gp) hb))
  have H2:=hidE (ps_kept HP.out hb)
  clear hb J2
  go_wp2_with fail
  go_ret
  exact ⟨K2.out,_,wv',rfl,⟨HC.out.1,rfl⟩,H2.out⟩
 | ok z =>
  obtain ⟨v',wv',rfl,hn,hp⟩:=hr
  have HP:=hidE hp
  have HN:=hidE hn
  clear hp hn
  have J2:=hidE (join1_any gp gm 4 (by decide) v' wv' z ws d w1 HP.out HN.out)
  go_wp2_with fail
  refine J2.out.mono ?_
  rintro r w2 ⟨hk,hr⟩
  have K2:=hidE (keptB_trans K1.out hk)
  have ED : Hid (jnD true (.ok z) = jn1 4 z):=rfl
  clear J2 hk
  cases hj : jn1 4 z with
  | error c9 =>
   rw [hj] at hr
   obtain ⟨v2,wv2,rfl,hc,hp⟩:=hr
   have HP2:=hidE hp
   have HC:=hidE hc
   have HJ:=hidE hj
   clear hj hp hc
   go_wp2_with fail
   go_ret
   rw [ED.out,HJ.out]
   exact ⟨K2.out,_,wv2,rfl,HC.out,HP2.out⟩
  | ok z2 =>
   rw [hj] at hr
   obtain ⟨v2,wv2,rfl,hn,hp⟩:=hr
   have HP2:=hidE hp
   have HN2:=hidE hn
   have HJ:=hidE hj
   clear hj hp hn
   go_wp2_with fail
   go_ret
   rw [ED.out,HJ.out]
   exact ⟨K2.out,_,wv2,rfl,HN2.out,HP2.out⟩
theorem joinBy_err10 (gp gm : Nat) (rank op : Int) (u v wv : Value) (ws : Ws) (d e : Int) (he : e ≠ 0) (w : World) (h : PS w gp gm wv ws d e) :
  Calls Tryz.prog 99 #[.pointer (some ⟨gp,0,none⟩),.agg #[.int .i64 rank,.int .i64 op,.bool true,.bool false],u,v] w fun r w' => ErrR w w' gp gm d e r:=by
 have h0:=h.e0 he
 subst h0
 have BA:=hidE (below_alloc w (.cells #[.int .i64 rank,.int .i64 op,.bool true,.bool false] 96))
 have H0:=hidE (ps_kept h BA.out)
 have J1:=hidE (join_err gp gm op v u wv [] d e he _ H0.out)
 have HE:=hidE he
 clear h he
 go_enter Tryz.func99,Tryz.ntmps99
 go_wp2_with fail
 refine J1.out.mono ?_
 rintro r w1 ⟨rfl,hb⟩
 have B1:=hidE (BA.out.trans (hb.mono BA.out.size))
 have H1:=hidE (ps_kept H0.out hb)
 obtain ⟨jc,jf⟩:=bcell hb
 clear hb J1
 go_wp2_with fail
 go_ret
 exact ⟨keptB_of_below B1.out,_,wv,rfl,rfl,H1.out⟩
theorem joinBy_ok10 (gp gm : Nat) (rank op : Int) (ho : ar op = 2) (u v wv : Value) (l m : List Nd) (ws : Ws) (d : Int) (w : World) (h : PS w gp gm wv ws d 0) (hu : NdsR w (gp + 1) u l) (hv : NdsR w (gp + 1) v m) :
  Calls Tryz.prog 99 #[.pointer (some ⟨gp,0,none⟩),.agg #[.int .i64 rank,.int .i64 op,.bool true,.bool false],u,v] w fun r w' => PRR w w' gp gm d (wth ws (jnS ⟨rank,op,true,false⟩ l m)) r:=by
 have BA:=hidE (below_alloc w (.cells #[.int .i64 rank,.int .i64 op,.bool true,.bool false] 96))
 have H0:=hidE (ps_kept h BA.out)
 have kf : KeptB w (w.alloc (.cells #[.int .i64 rank,.int .i64 op,.bool true,.bool false] 96)) (fun _ => False):=keptB_of_below BA.out
 have J1:=hidE (join2_any gp gm op ho v u wv m l ws d _ H0.out (nds_kept hv kf (fun k e => e.elim)) (nds_kept hu kf (fun k e => e.elim)))
 have EJ : Hid (jnS ⟨rank,op,true,false⟩ l m = jnD false (jn2 op m l)):=rfl
 have hlt:=h.bd.lt
 rw [EJ.out]
 clear h hu hv kf EJ
 generalize hj : jn2 op m l = J at *
 clear hj
 go_enter Tryz.func99,Tryz.ntmps99
 go_wp2_with fail
 refine J1.out.mono ?_
 rintro r w1 ⟨hk,hr⟩
 have K1:=hidE (keptB_q BA.out hk)
 have c3 : w1.cell? ⟨w.heap.size,3,none⟩ = some (.bool false):=by
  rw [kept_cell hk 3 (by simp) (by omega)]
  simp
 clear J1 hk
 cases J with
 | error c9 =>
  obtain ⟨v',wv',rfl,hc,hp⟩:=hr
  have HP:=hidE hp
  have HC:=hidE hc
  clear hp hc
  go_wp2_with fail
  go_ret
  exact ⟨K1.out,_,wv',rfl,HC.out,HP.out⟩
 | ok z =>
  obtain ⟨v',wv',rfl,hn,hp⟩:=hr
  have HP:=hidE hp
  have HN:=hidE hn
  clear hp hn
  go_wp2_with fail
  go_ret
  exact ⟨K1.out,_,wv',rfl,HN.out,HP.out⟩
theorem joinBy_err11 (gp gm : Nat) (rank op : Int) (u v wv : Value) (ws : Ws) (d e : Int) (he : e ≠ 0) (w : World) (h : PS w gp gm wv ws d e) :
  Calls Tryz.prog 99 #[.pointer (some ⟨gp,0,none⟩),.agg #[.int .i64 rank,.int .i64 op,.bool true,.bool true],u,v] w fun r w' => ErrR w w' gp gm d e r:=by
 have h0:=h.e0 he
 subst h0
 have BA:=hidE (below_alloc w (.cells #[.int .i64 rank,.int .i64 op,.bool true,.bool true] 96))
 have H0:=hidE (ps_kept h BA.out)
 have J1:=hidE (join_err gp gm op v u wv [] d e he _ H0.out)
 have HE:=hidE he
 clear h he
 go_enter Tryz.func99,Tryz.ntmps99
 go_wp2_with fail
 refine J1.out.mono ?_
 rintro r w1 ⟨rfl,hb⟩
 have B1:=hidE (BA.out.trans (hb.mono BA.out.size))
 have H1:=hidE (ps_kept H0.out hb)
 obtain ⟨jc,jf⟩:=bcell hb
 clear hb J1
 have J2:=hidE (join_err gp gm 4 (.slice none 0 0) (.slice none 0 0) wv [] d e HE.out w1 H1.out)
 go_wp2_with fail
 refine J2.out.mono ?_
 rintro r w2 ⟨rfl,hb⟩
 have B2:=hidE (B1.out.trans (hb.mono B1.out.size))
 have H2:=hidE (ps_kept H1.out hb)
 clear hb J2
 go_wp2_with fail
 go_ret
 exact ⟨keptB_of_below B2.out,_,wv,rfl,rfl,H2.out⟩
theorem joinBy_ok11 (gp gm : Nat) (rank op : Int) (ho : ar op = 2) (u v wv : Value) (l m : List Nd) (ws : Ws) (d : Int) (w : World) (h : PS w gp gm wv ws d 0) (hu : NdsR w (gp + 1) u l) (hv : NdsR w (gp + 1) v m) :
  Calls Tryz.prog 99 #[.pointer (some ⟨gp,0,none⟩),.agg #[.int .i64 rank,.int .i64 op,.bool true,.bool true],u,v] w fun r w' => PRR w w' gp gm d (wth ws (jnS ⟨rank,op,true,true⟩ l m)) r:=by
 have BA:=hidE (below_alloc w (.cells #[.int .i64 rank,.int .i64 op,.bool true,.bool true] 96))
 have H0:=hidE (ps_kept h BA.out)
 have kf : KeptB w (w.alloc (.cells #[.int .i64 rank,.int .i64 op,.bool true,.bool true] 96)) (fun _ => False):=keptB_of_below BA.out
 have J1:=hidE (join2_any gp gm op ho v u wv m l ws d _ H0.out (nds_kept hv kf (fun k e => e.elim)) (nds_kept hu kf (fun k e => e.elim)))
 have EJ : Hid (jnS ⟨rank,op,true,true⟩ l m = jnD true (jn2 op m l)):=rfl
 have hlt:=h.bd.lt
 rw [EJ.out]
 clear h hu hv kf EJ
 generalize hj : jn2 op m l = J at *
 clear hj
 go_enter Tryz.func99,Tryz.ntmps99
 go_wp2_with fail
 refine J1.out.mono ?_
 rintro r w1 ⟨hk,hr⟩
 have K1:=hidE (keptB_q BA.out hk)
 have c3 : w1.cell? ⟨w.heap.size,3,none⟩ = some (.bool true):=by
  rw [kept_cell hk 3 (by simp) (by omega)]
  simp
 clear J1 hk
 cases J with
 | error c9 =>
  obtain ⟨v',wv',rfl,hc,hp⟩:=hr
  have HP:=hidE hp
  have HC:=hidE hc
  clear hp hc
  have J2:=hidE (join_err gp gm 4 v' (.slice none 0 0) wv' [] d c9 HC.out.1 w1 HP.out)
  go_wp2_with fail
  refine J2.out.mono ?_
  rintro r w2 ⟨rfl,hb⟩
  have K2:=hidE (keptB_trans K1.out (keptB_of_below (bad:=fun q => q = gp) hb))
  have H2:=hidE (ps_kept HP.out hb)
  clear hb J2
  go_wp2_with fail
  go_ret
  exact ⟨K2.out,_,wv',rfl,⟨HC.out.1,rfl⟩,H2.out⟩
 | ok z =>
  obtain ⟨v',wv',rfl,hn,hp⟩:=hr
  have HP:=hidE hp
  have HN:=hidE hn
  clear hp hn
  have J2:=hidE (join1_any gp gm 4 (by decide) v' wv' z ws d w1 HP.out HN.out)
  go_wp2_with fail
  refine J2.out.mono ?_
  rintro r w2 ⟨hk,hr⟩
  have K2:=hidE (keptB_trans K1.out hk)
  have ED : Hid (jnD true (.ok z) = jn1 4 z):=rfl
  clear J2 hk
  cases hj : jn1 4 z with
  | error c9 =>
   rw [hj] at hr
   obtain ⟨v2,wv2,rfl,hc,hp⟩:=hr
   have HP2:=hidE hp
   have HC:=hidE hc
   have HJ:=hidE hj
   clear hj hp hc
   go_wp2_with fail
   go_ret
   rw [ED.out,HJ.out]
   exact ⟨K2.out,_,wv2,rfl,HC.out,HP2.out⟩
  | ok z2 =>
   rw [hj] at hr
   obtain ⟨v2,wv2,rfl,hn,hp⟩:=hr
   have HP2:=hidE hp
   have HN2:=hidE hn
   have HJ:=hidE hj
   clear hj hp hn
   go_wp2_with fail
   go_ret
   rw [ED.out,HJ.out]
   exact ⟨K2.out,_,wv2,rfl,HN2.out,HP2.out⟩
theorem joinBy_err (gp gm : Nat) (s : Sg) (u v wv : Value) (ws : Ws) (d e : Int) (he : e ≠ 0) (w : World) (h : PS w gp gm wv ws d e) :
  Calls Tryz.prog 99 #[.pointer (some ⟨gp,0,none⟩),sgV s,u,v] w fun r w' => ErrR w w' gp gm d e r:=by
 obtain ⟨rank,op,tn,dn⟩:=s
 cases tn <;> cases dn
 ·exact joinBy_err00 gp gm rank op u v wv ws d e he w h
 ·exact joinBy_err01 gp gm rank op u v wv ws d e he w h
 ·exact joinBy_err10 gp gm rank op u v wv ws d e he w h
 ·exact joinBy_err11 gp gm rank op u v wv ws d e he w h
theorem joinBy_ok (gp gm : Nat) (s : Sg) (ho : ar s.op = 2) (u v wv : Value) (l m : List Nd) (ws : Ws) (d : Int) (w : World) (h : PS w gp gm wv ws d 0) (hu : NdsR w (gp + 1) u l) (hv : NdsR w (gp + 1) v m) :
  Calls Tryz.prog 99 #[.pointer (some ⟨gp,0,none⟩),sgV s,u,v] w fun r w' => PRR w w' gp gm d (wth ws (jnS s l m)) r:=by
 obtain ⟨rank,op,tn,dn⟩:=s
 cases tn <;> cases dn
 ·exact joinBy_ok00 gp gm rank op ho u v wv l m ws d w h hu hv
 ·exact joinBy_ok01 gp gm rank op ho u v wv l m ws d w h hu hv
 ·exact joinBy_ok10 gp gm rank op ho u v wv l m ws d w h hu hv
 ·exact joinBy_ok11 gp gm rank op ho u v wv l m ws d w h hu hv
end Go.Proofs.YteaanpdckkmjoaaGreatDoor

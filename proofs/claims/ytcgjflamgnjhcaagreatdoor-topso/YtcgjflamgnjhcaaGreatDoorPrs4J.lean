/- Own texts in one. Conditions: as named in each. -/
import Derived.Test.YtcgjflamgnjhcaaGreatDoorPrs1J
set_option linter.unusedVariables false
set_option linter.unusedSimpArgs false
set_option maxRecDepth 100000
set_option maxHeartbeats 8000000
namespace Go.Proofs.YtcgjflamgnjhcaaGreatDoor
open Go.ChangeShapes Go.WideShapes Go.ChangeAt Go.RowKit
def WfN (l:List Nd):Prop:=0 < l.length∧l.length≤40∧∃ bs,kq l bs∧bs[l.length - 1]?=some 0
theorem og {l:List Nd} (h:WfN l):∀ n∈l,Mvb n:=by
 obtain ⟨-,h1,bs,hg,-⟩:=h;exact good_mvb hg (by omega)
theorem wf_jn2 {op:Int} {l m z:List Nd} (ho:ar op=2) (hl:WfN l) (hm:WfN m) (h:jn2 op l m=.ok z):z=gJ op l m∧WfN z:=by
 unfold jn2 at h
 by_cases h4:40 < l.length+m.length+1
 ·rw [if_pos h4] at h;cases h
 ·rw [if_neg h4] at h;cases h;obtain ⟨a0,a1,bl,hg,hb⟩:=hl;obtain ⟨c0,c1,bm,hg2,hb2⟩:=hm;have hlen:(gJ op l m).length=l.length+m.length+1:=by simp [gJ];omega
  refine ⟨rfl,by omega,by omega,_,good_joinL hg hg2 a0 c0 hb hb2 ho,?_⟩;have h9:(bl++bm.map (·+l.length)).length=l.length+m.length:=by simp [hg.1,hg2.1]
  rw [hlen,show l.length+m.length+1 - 1=l.length+m.length from by omega,← h9,List.getElem?_append_right (Nat.le_refl _)]
  simp
theorem wf_jn1 {op:Int} {l z:List Nd} (ho:ar op=1) (hl:WfN l) (h:jn1 op l=.ok z):z=fw op l∧WfN z:=by
 unfold jn1 at h
 by_cases h4:40 < l.length+1
 ·rw [if_pos h4] at h;cases h
 ·rw [if_neg h4] at h;cases h;obtain ⟨a0,a1,bl,hg,hb⟩:=hl;have hlen:(fw op l).length=l.length+1:=by simp [fw]
  refine ⟨rfl,by omega,by omega,_,good_join1 hg a0 hb ho,?_⟩;rw [hlen,show l.length+1 - 1=bl.length from by rw [hg.1];omega,List.getElem?_append_right (Nat.le_refl _)]
  simp
def isSl:Value→Bool
 | .slice _ _ _=>true
 | _=>false
structure ErC (c:Int) (v:Value):Prop where
 ne:c≠0
 sl:isSl v=true
theorem bU {v:Value} (h:isSl v=true):∃ a n c,v=.slice a n c:=by
 cases v <;> simp [isSl] at h
 exact ⟨_,_,_,rfl⟩
def NdsR (w:World) (B:Nat) (v:Value) (l:List Nd):Prop:=w.ownsRow B 153 6 v l.length (f9 l)∧WfN l
theorem NdsR.sl {w:World} {B:Nat} {v:Value} {l:List Nd} (h:NdsR w B v l):isSl v=true:=by
 obtain ⟨ao,cap,rfl⟩:=ax h.1
 rfl
theorem aV {w w':World} {B:Nat} {v:Value} {l:List Nd} {bad:Nat→Prop} (h:NdsR w B v l) (hk:KeptB w w' bad) (hb:∀ k,bad k→k < B):NdsR w' B v l :=
 ⟨bf h.1 hk (fun k e h9=>by have:=hb k h9;have:=(aJ h.1 k e).1;omega),h.2⟩
def PRR (w w':World) (gp gm:Nat) (d:Int) (r:PR) (e:Ending):Prop:=KeptB w w' (fun q=>q=gp)∧match r with
 | .ok p=>∃ v wv',e=.returned v∧NdsR w' (gp+1) v p.1∧PS w' gp gm wv' p.2 d 0
 | .error c=>∃ v wv',e=.returned v∧ErC c v∧PS w' gp gm wv' [] d c
theorem dR (gp gm:Nat) (op:Int) (u v wv:Value) (ws:Ws) (d e:Int) (he:e≠0) (w:World) (h:PS w gp gm wv ws d e) :
  Calls Tryz.prog 179 #[.pointer (some ⟨gp,0,none⟩),.int .i64 op,u,v] w fun r w'=>r=.returned (.slice none 0 0)∧Below w.heap.size w w':=by
 have c3:w.cell? ⟨gp,3,none⟩=some (errC e):=h.bd.c 3 (by simp);have ec:errC e=.iface 93 (.int .i64 e):=by unfold errC;rw [if_neg he]
 rw [ec] at c3;clear h he ec
 go_enter Tryz.func179,Tryz.ntmps179
 go_wp2_with fail
 go_ret
 exact ⟨rfl,Below.refl _ _⟩
theorem oJ (R:Ending→World→Prop) (gp gm:Nat) (op:Int) (u v wv:Value) (ws:Ws) (d:Int) (w:World) (h:PS w gp gm wv ws d 0) (z:List Nd) (hz:z.length≤200)
  (HJ:Calls Tryz.prog 190 #[.int .i64 op,u,v] w fun e w'=>∃ u',e=.returned u'∧w'.ownsRow w.heap.size 153 6 u' z.length (f9 z)∧Below w.heap.size w w')
  (hN:40 < z.length→∀ w',KeptB w w' (fun q=>q=gp)→PS w' gp gm (.slice none 0 0) [] d 2→R (.returned (.slice none 0 0)) w')
  (hY:z.length≤40→∀ u' w',KeptB w w' (fun q=>q=gp)→PS w' gp gm wv ws d 0→w'.ownsRow (gp+1) 153 6 u' z.length (f9 z)→R (.returned u') w') :
  Calls Tryz.prog 179 #[.pointer (some ⟨gp,0,none⟩),.int .i64 op,u,v] w R:=by
 have c3:w.cell? ⟨gp,3,none⟩=some .nilIface:=h.bd.c 3 (by simp);have H:=aa h;have HN:=aa hN;have HY:=aa hY;have HJJ:=aa HJ;have hlt:=h.bd.lt;clear h hN hY HJ
 go_enter Tryz.func179,Tryz.ntmps179
 go_wp2_with fail;refine HJJ.out.mono ?_;rintro e w1 ⟨u',rfl,ho,hb⟩;obtain ⟨ao,cap,rfl⟩:=ax ho;have HO:=aa (aK ho (show gp+1≤w.heap.size by omega));have HB:=aa hb;have H1:=aa (bA H.out hb);clear ho hb HJJ
 by_cases h4:40 < z.length
 ·have d4:decide (40 < (z.length:Int))=true:=by simp;omega
  have FL:=aa (fI gp gm 2 (by decide) wv ws d 0 w1 H1.out);have HN2:=aa (HN.out h4);clear h4;go_wp2_with fail;refine FL.out.mono ?_;rintro e w2 ⟨rfl,hk,hp⟩;have HK:=aa hk;have HP:=aa hp;clear hk hp FL;go_wp2_with fail;exact HN2.out _ (af (ae HB.out) HK.out) HP.out
 ·have d4:decide (40 < (z.length:Int))=false:=by simp;omega
  have HY2:=aa (HY.out (by omega));clear h4;go_wp2_with fail;exact HY2.out _ _ (ae HB.out) H1.out HO.out
theorem nb (w:World):bK w (.slice none 0 0) 6 ([]:List Nd).length (f9 []):=⟨rfl,.inl ⟨⟨_,_,rfl⟩,rfl⟩⟩
theorem jD (gp gm:Nat) (op:Int) (ho:ar op=1) (u wv:Value) (l:List Nd) (ws:Ws) (d:Int) (w:World) (h:PS w gp gm wv ws d 0) (hu:NdsR w (gp+1) u l) :
  Calls Tryz.prog 179 #[.pointer (some ⟨gp,0,none⟩),.int .i64 op,u,.slice none 0 0] w fun r w'=>PRR w w' gp gm d (wth ws (jn1 op l)) r:=by
 have hl:=hu.2.2.1;have hlen:(fw op l).length=l.length+1:=by simp [fw]
 refine oJ _ gp gm op u (.slice none 0 0) wv ws d w h (fw op l) (by omega) (join_one op l [] u (.slice none 0 0) w (by omega) (aD hu.1) (nb w) (og hu.2) ho) (fun h4 w' hk hp=>?_) (fun h4 u' w' hk hp ho2=>?_)
 ·have e:jn1 op l=.error 2:=by unfold jn1;rw [if_pos (by omega)]
  rw [e];exact ⟨hk,_,_,rfl,⟨by decide,rfl⟩,hp⟩
 ·have e:jn1 op l=.ok (fw op l):=by unfold jn1;rw [if_neg (by omega)]
  have hw:=(wf_jn1 ho hu.2 e).2;rw [e];exact ⟨hk,_,_,rfl,⟨ho2,hw⟩,hp⟩
theorem gP (gp gm:Nat) (op:Int) (ho:ar op=2) (u v wv:Value) (l m:List Nd) (ws:Ws) (d:Int) (w:World) (h:PS w gp gm wv ws d 0) (hu:NdsR w (gp+1) u l) (hv:NdsR w (gp+1) v m) :
  Calls Tryz.prog 179 #[.pointer (some ⟨gp,0,none⟩),.int .i64 op,u,v] w fun r w'=>PRR w w' gp gm d (wth ws (jn2 op l m)) r:=by
 have hl:=hu.2.2.1;have hm:=hv.2.2.1;have hlen:(gJ op l m).length=l.length+m.length+1:=by simp [gJ];omega
 refine oJ _ gp gm op u v wv ws d w h (gJ op l m) (by omega) (join_two op l m u v w (by omega) (by omega) (aD hu.1) (aD hv.1) (og hu.2) (og hv.2) ho) (fun h4 w' hk hp=>?_) (fun h4 u' w' hk hp ho2=>?_)
 ·have e:jn2 op l m=.error 2:=by unfold jn2;rw [if_pos (by omega)]
  rw [e];exact ⟨hk,_,_,rfl,⟨by decide,rfl⟩,hp⟩
 ·have e:jn2 op l m=.ok (gJ op l m):=by unfold jn2;rw [if_neg (by omega)]
  have hw:=(wf_jn2 ho hu.2 hv.2 e).2;rw [e];exact ⟨hk,_,_,rfl,⟨ho2,hw⟩,hp⟩
theorem kQ {w w1 w2:World} {gp:Nat} (h:Below w.heap.size w w1) (k:KeptB w1 w2 (fun q=>q=gp)):KeptB w w2 (fun q=>q=gp):=af (ae h) k
def qE (w w':World) (gp gm:Nat) (d e:Int) (r:Ending):Prop:=KeptB w w' (fun q=>q=gp)∧∃ v wv',r=.returned v∧isSl v=true∧PS w' gp gm wv' [] d e
theorem joinBy_err00 (gp gm:Nat) (rank op:Int) (u v wv:Value) (ws:Ws) (d e:Int) (he:e≠0) (w:World) (h:PS w gp gm wv ws d e) :
  Calls Tryz.prog 167 #[.pointer (some ⟨gp,0,none⟩),.agg #[.int .i64 rank,.int .i64 op,.bool false,.bool false],u,v] w fun r w'=>qE w w' gp gm d e r:=by
 have h0:=h.e0 he;subst h0;have BA:=aa (aj w (.cells #[.int .i64 rank,.int .i64 op,.bool false,.bool false] 176));have H0:=aa (bA h BA.out);have J1:=aa (dR gp gm op u v wv [] d e he _ H0.out);have HE:=aa he;clear h he
 go_enter Tryz.func167,Tryz.ntmps167
 go_wp2_with fail;refine J1.out.mono ?_;rintro r w1 ⟨rfl,hb⟩;have B1:=aa (BA.out.trans (hb.mono BA.out.size));have H1:=aa (bA H0.out hb);obtain ⟨jc,jf⟩:=bcell hb;clear hb J1;go_wp2_with fail
 go_ret
 exact ⟨ae B1.out,_,wv,rfl,rfl,H1.out⟩
theorem joinBy_ok00 (gp gm:Nat) (rank op:Int) (ho:ar op=2) (u v wv:Value) (l m:List Nd) (ws:Ws) (d:Int) (w:World) (h:PS w gp gm wv ws d 0) (hu:NdsR w (gp+1) u l) (hv:NdsR w (gp+1) v m) :
  Calls Tryz.prog 167 #[.pointer (some ⟨gp,0,none⟩),.agg #[.int .i64 rank,.int .i64 op,.bool false,.bool false],u,v] w fun r w'=>PRR w w' gp gm d (wth ws (jnS ⟨rank,op,false,false⟩ l m)) r:=by
 have BA:=aa (aj w (.cells #[.int .i64 rank,.int .i64 op,.bool false,.bool false] 176));have H0:=aa (bA h BA.out);have kf:KeptB w (w.alloc (.cells #[.int .i64 rank,.int .i64 op,.bool false,.bool false] 176)) (fun _=>False):=ae BA.out;have J1:=aa (gP gp gm op ho u v wv l m ws d _ H0.out (aV hu kf (fun k e=>e.elim)) (aV hv kf (fun k e=>e.elim)));have EJ:Hid (jnS ⟨rank,op,false,false⟩ l m=jnD false (jn2 op l m)):=rfl;have hlt:=h.bd.lt;rw [EJ.out];clear h hu hv kf EJ;generalize hj:jn2 op l m=J at *;clear hj
 go_enter Tryz.func167,Tryz.ntmps167
 go_wp2_with fail;refine J1.out.mono ?_;rintro r w1 ⟨hk,hr⟩;have K1:=aa (kQ BA.out hk);have c3:w1.cell? ⟨w.heap.size,3,none⟩=some (.bool false):=by
  rw [aC hk 3 (by simp) (by omega)]
  simp
 clear J1 hk;cases J with
 | error c9 =>
  obtain ⟨v',wv',rfl,hc,hp⟩:=hr;have HP:=aa hp;have HC:=aa hc;clear hp hc;go_wp2_with fail
  go_ret
  exact ⟨K1.out,_,wv',rfl,HC.out,HP.out⟩
 | ok z =>
  obtain ⟨v',wv',rfl,hn,hp⟩:=hr;have HP:=aa hp;have HN:=aa hn;clear hp hn;go_wp2_with fail
  go_ret
  exact ⟨K1.out,_,wv',rfl,HN.out,HP.out⟩
theorem joinBy_err01 (gp gm:Nat) (rank op:Int) (u v wv:Value) (ws:Ws) (d e:Int) (he:e≠0) (w:World) (h:PS w gp gm wv ws d e) :
  Calls Tryz.prog 167 #[.pointer (some ⟨gp,0,none⟩),.agg #[.int .i64 rank,.int .i64 op,.bool false,.bool true],u,v] w fun r w'=>qE w w' gp gm d e r:=by
 have h0:=h.e0 he;subst h0;have BA:=aa (aj w (.cells #[.int .i64 rank,.int .i64 op,.bool false,.bool true] 176));have H0:=aa (bA h BA.out);have J1:=aa (dR gp gm op u v wv [] d e he _ H0.out);have HE:=aa he;clear h he
 go_enter Tryz.func167,Tryz.ntmps167
 go_wp2_with fail;refine J1.out.mono ?_;rintro r w1 ⟨rfl,hb⟩;have B1:=aa (BA.out.trans (hb.mono BA.out.size));have H1:=aa (bA H0.out hb);obtain ⟨jc,jf⟩:=bcell hb;clear hb J1;have J2:=aa (dR gp gm 4 (.slice none 0 0) (.slice none 0 0) wv [] d e HE.out w1 H1.out);go_wp2_with fail;refine J2.out.mono ?_;rintro r w2 ⟨rfl,hb⟩;have B2:=aa (B1.out.trans (hb.mono B1.out.size));have H2:=aa (bA H1.out hb);clear hb J2;go_wp2_with fail
 go_ret
 exact ⟨ae B2.out,_,wv,rfl,rfl,H2.out⟩
theorem joinBy_ok01 (gp gm:Nat) (rank op:Int) (ho:ar op=2) (u v wv:Value) (l m:List Nd) (ws:Ws) (d:Int) (w:World) (h:PS w gp gm wv ws d 0) (hu:NdsR w (gp+1) u l) (hv:NdsR w (gp+1) v m) :
  Calls Tryz.prog 167 #[.pointer (some ⟨gp,0,none⟩),.agg #[.int .i64 rank,.int .i64 op,.bool false,.bool true],u,v] w fun r w'=>PRR w w' gp gm d (wth ws (jnS ⟨rank,op,false,true⟩ l m)) r:=by
 have BA:=aa (aj w (.cells #[.int .i64 rank,.int .i64 op,.bool false,.bool true] 176));have H0:=aa (bA h BA.out);have kf:KeptB w (w.alloc (.cells #[.int .i64 rank,.int .i64 op,.bool false,.bool true] 176)) (fun _=>False):=ae BA.out;have J1:=aa (gP gp gm op ho u v wv l m ws d _ H0.out (aV hu kf (fun k e=>e.elim)) (aV hv kf (fun k e=>e.elim)));have EJ:Hid (jnS ⟨rank,op,false,true⟩ l m=jnD true (jn2 op l m)):=rfl;have hlt:=h.bd.lt;rw [EJ.out];clear h hu hv kf EJ;generalize hj:jn2 op l m=J at *;clear hj
 go_enter Tryz.func167,Tryz.ntmps167
 go_wp2_with fail;refine J1.out.mono ?_;rintro r w1 ⟨hk,hr⟩;have K1:=aa (kQ BA.out hk);have c3:w1.cell? ⟨w.heap.size,3,none⟩=some (.bool true):=by
  rw [aC hk 3 (by simp) (by omega)]
  simp
 clear J1 hk;cases J with
 | error c9 =>
  obtain ⟨v',wv',rfl,hc,hp⟩:=hr;have HP:=aa hp;have HC:=aa hc;clear hp hc;have J2:=aa (dR gp gm 4 v' (.slice none 0 0) wv' [] d c9 HC.out.1 w1 HP.out);go_wp2_with fail;refine J2.out.mono ?_;rintro r w2 ⟨rfl,hb⟩;have K2:=aa (af K1.out (ae (bad:=fun q=>q=gp) hb));have H2:=aa (bA HP.out hb);clear hb J2;go_wp2_with fail
  go_ret
  exact ⟨K2.out,_,wv',rfl,⟨HC.out.1,rfl⟩,H2.out⟩
 | ok z =>
  obtain ⟨v',wv',rfl,hn,hp⟩:=hr;have HP:=aa hp;have HN:=aa hn;clear hp hn;have J2:=aa (jD gp gm 4 (by decide) v' wv' z ws d w1 HP.out HN.out);go_wp2_with fail;refine J2.out.mono ?_;rintro r w2 ⟨hk,hr⟩;have K2:=aa (af K1.out hk);have ED:Hid (jnD true (.ok z)=jn1 4 z):=rfl;clear J2 hk;cases hj:jn1 4 z with
  | error c9 =>
   rw [hj] at hr;obtain ⟨v2,wv2,rfl,hc,hp⟩:=hr;have HP2:=aa hp;have HC:=aa hc;have HJ:=aa hj;clear hj hp hc;go_wp2_with fail
   go_ret
   rw [ED.out,HJ.out];exact ⟨K2.out,_,wv2,rfl,HC.out,HP2.out⟩
  | ok z2 =>
   rw [hj] at hr;obtain ⟨v2,wv2,rfl,hn,hp⟩:=hr;have HP2:=aa hp;have HN2:=aa hn;have HJ:=aa hj;clear hj hp hn;go_wp2_with fail
   go_ret
   rw [ED.out,HJ.out];exact ⟨K2.out,_,wv2,rfl,HN2.out,HP2.out⟩
theorem joinBy_err10 (gp gm:Nat) (rank op:Int) (u v wv:Value) (ws:Ws) (d e:Int) (he:e≠0) (w:World) (h:PS w gp gm wv ws d e) :
  Calls Tryz.prog 167 #[.pointer (some ⟨gp,0,none⟩),.agg #[.int .i64 rank,.int .i64 op,.bool true,.bool false],u,v] w fun r w'=>qE w w' gp gm d e r:=by
 have h0:=h.e0 he;subst h0;have BA:=aa (aj w (.cells #[.int .i64 rank,.int .i64 op,.bool true,.bool false] 176));have H0:=aa (bA h BA.out);have J1:=aa (dR gp gm op v u wv [] d e he _ H0.out);have HE:=aa he;clear h he
 go_enter Tryz.func167,Tryz.ntmps167
 go_wp2_with fail;refine J1.out.mono ?_;rintro r w1 ⟨rfl,hb⟩;have B1:=aa (BA.out.trans (hb.mono BA.out.size));have H1:=aa (bA H0.out hb);obtain ⟨jc,jf⟩:=bcell hb;clear hb J1;go_wp2_with fail
 go_ret
 exact ⟨ae B1.out,_,wv,rfl,rfl,H1.out⟩
theorem joinBy_ok10 (gp gm:Nat) (rank op:Int) (ho:ar op=2) (u v wv:Value) (l m:List Nd) (ws:Ws) (d:Int) (w:World) (h:PS w gp gm wv ws d 0) (hu:NdsR w (gp+1) u l) (hv:NdsR w (gp+1) v m) :
  Calls Tryz.prog 167 #[.pointer (some ⟨gp,0,none⟩),.agg #[.int .i64 rank,.int .i64 op,.bool true,.bool false],u,v] w fun r w'=>PRR w w' gp gm d (wth ws (jnS ⟨rank,op,true,false⟩ l m)) r:=by
 have BA:=aa (aj w (.cells #[.int .i64 rank,.int .i64 op,.bool true,.bool false] 176));have H0:=aa (bA h BA.out);have kf:KeptB w (w.alloc (.cells #[.int .i64 rank,.int .i64 op,.bool true,.bool false] 176)) (fun _=>False):=ae BA.out;have J1:=aa (gP gp gm op ho v u wv m l ws d _ H0.out (aV hv kf (fun k e=>e.elim)) (aV hu kf (fun k e=>e.elim)));have EJ:Hid (jnS ⟨rank,op,true,false⟩ l m=jnD false (jn2 op m l)):=rfl;have hlt:=h.bd.lt;rw [EJ.out];clear h hu hv kf EJ;generalize hj:jn2 op m l=J at *;clear hj
 go_enter Tryz.func167,Tryz.ntmps167
 go_wp2_with fail;refine J1.out.mono ?_;rintro r w1 ⟨hk,hr⟩;have K1:=aa (kQ BA.out hk);have c3:w1.cell? ⟨w.heap.size,3,none⟩=some (.bool false):=by
  rw [aC hk 3 (by simp) (by omega)]
  simp
 clear J1 hk;cases J with
 | error c9 =>
  obtain ⟨v',wv',rfl,hc,hp⟩:=hr;have HP:=aa hp;have HC:=aa hc;clear hp hc;go_wp2_with fail
  go_ret
  exact ⟨K1.out,_,wv',rfl,HC.out,HP.out⟩
 | ok z =>
  obtain ⟨v',wv',rfl,hn,hp⟩:=hr;have HP:=aa hp;have HN:=aa hn;clear hp hn;go_wp2_with fail
  go_ret
  exact ⟨K1.out,_,wv',rfl,HN.out,HP.out⟩
theorem joinBy_err11 (gp gm:Nat) (rank op:Int) (u v wv:Value) (ws:Ws) (d e:Int) (he:e≠0) (w:World) (h:PS w gp gm wv ws d e) :
  Calls Tryz.prog 167 #[.pointer (some ⟨gp,0,none⟩),.agg #[.int .i64 rank,.int .i64 op,.bool true,.bool true],u,v] w fun r w'=>qE w w' gp gm d e r:=by
 have h0:=h.e0 he;subst h0;have BA:=aa (aj w (.cells #[.int .i64 rank,.int .i64 op,.bool true,.bool true] 176));have H0:=aa (bA h BA.out);have J1:=aa (dR gp gm op v u wv [] d e he _ H0.out);have HE:=aa he;clear h he
 go_enter Tryz.func167,Tryz.ntmps167
 go_wp2_with fail;refine J1.out.mono ?_;rintro r w1 ⟨rfl,hb⟩;have B1:=aa (BA.out.trans (hb.mono BA.out.size));have H1:=aa (bA H0.out hb);obtain ⟨jc,jf⟩:=bcell hb;clear hb J1;have J2:=aa (dR gp gm 4 (.slice none 0 0) (.slice none 0 0) wv [] d e HE.out w1 H1.out);go_wp2_with fail;refine J2.out.mono ?_;rintro r w2 ⟨rfl,hb⟩;have B2:=aa (B1.out.trans (hb.mono B1.out.size));have H2:=aa (bA H1.out hb);clear hb J2;go_wp2_with fail
 go_ret
 exact ⟨ae B2.out,_,wv,rfl,rfl,H2.out⟩
theorem joinBy_ok11 (gp gm:Nat) (rank op:Int) (ho:ar op=2) (u v wv:Value) (l m:List Nd) (ws:Ws) (d:Int) (w:World) (h:PS w gp gm wv ws d 0) (hu:NdsR w (gp+1) u l) (hv:NdsR w (gp+1) v m) :
  Calls Tryz.prog 167 #[.pointer (some ⟨gp,0,none⟩),.agg #[.int .i64 rank,.int .i64 op,.bool true,.bool true],u,v] w fun r w'=>PRR w w' gp gm d (wth ws (jnS ⟨rank,op,true,true⟩ l m)) r:=by
 have BA:=aa (aj w (.cells #[.int .i64 rank,.int .i64 op,.bool true,.bool true] 176));have H0:=aa (bA h BA.out);have kf:KeptB w (w.alloc (.cells #[.int .i64 rank,.int .i64 op,.bool true,.bool true] 176)) (fun _=>False):=ae BA.out;have J1:=aa (gP gp gm op ho v u wv m l ws d _ H0.out (aV hv kf (fun k e=>e.elim)) (aV hu kf (fun k e=>e.elim)));have EJ:Hid (jnS ⟨rank,op,true,true⟩ l m=jnD true (jn2 op m l)):=rfl;have hlt:=h.bd.lt;rw [EJ.out];clear h hu hv kf EJ;generalize hj:jn2 op m l=J at *;clear hj
 go_enter Tryz.func167,Tryz.ntmps167
 go_wp2_with fail;refine J1.out.mono ?_;rintro r w1 ⟨hk,hr⟩;have K1:=aa (kQ BA.out hk);have c3:w1.cell? ⟨w.heap.size,3,none⟩=some (.bool true):=by
  rw [aC hk 3 (by simp) (by omega)]
  simp
 clear J1 hk;cases J with
 | error c9 =>
  obtain ⟨v',wv',rfl,hc,hp⟩:=hr;have HP:=aa hp;have HC:=aa hc;clear hp hc;have J2:=aa (dR gp gm 4 v' (.slice none 0 0) wv' [] d c9 HC.out.1 w1 HP.out);go_wp2_with fail;refine J2.out.mono ?_;rintro r w2 ⟨rfl,hb⟩;have K2:=aa (af K1.out (ae (bad:=fun q=>q=gp) hb));have H2:=aa (bA HP.out hb);clear hb J2;go_wp2_with fail
  go_ret
  exact ⟨K2.out,_,wv',rfl,⟨HC.out.1,rfl⟩,H2.out⟩
 | ok z =>
  obtain ⟨v',wv',rfl,hn,hp⟩:=hr;have HP:=aa hp;have HN:=aa hn;clear hp hn;have J2:=aa (jD gp gm 4 (by decide) v' wv' z ws d w1 HP.out HN.out);go_wp2_with fail;refine J2.out.mono ?_;rintro r w2 ⟨hk,hr⟩;have K2:=aa (af K1.out hk);have ED:Hid (jnD true (.ok z)=jn1 4 z):=rfl;clear J2 hk;cases hj:jn1 4 z with
  | error c9 =>
   rw [hj] at hr;obtain ⟨v2,wv2,rfl,hc,hp⟩:=hr;have HP2:=aa hp;have HC:=aa hc;have HJ:=aa hj;clear hj hp hc;go_wp2_with fail
   go_ret
   rw [ED.out,HJ.out];exact ⟨K2.out,_,wv2,rfl,HC.out,HP2.out⟩
  | ok z2 =>
   rw [hj] at hr;obtain ⟨v2,wv2,rfl,hn,hp⟩:=hr;have HP2:=aa hp;have HN2:=aa hn;have HJ:=aa hj;clear hj hp hn;go_wp2_with fail
   go_ret
   rw [ED.out,HJ.out];exact ⟨K2.out,_,wv2,rfl,HN2.out,HP2.out⟩
theorem eZ (gp gm:Nat) (s:Sg) (u v wv:Value) (ws:Ws) (d e:Int) (he:e≠0) (w:World) (h:PS w gp gm wv ws d e) :
  Calls Tryz.prog 167 #[.pointer (some ⟨gp,0,none⟩),sgV s,u,v] w fun r w'=>qE w w' gp gm d e r:=by
 obtain ⟨rank,op,tn,dn⟩:=s;cases tn <;> cases dn
 ·exact joinBy_err00 gp gm rank op u v wv ws d e he w h
 ·exact joinBy_err01 gp gm rank op u v wv ws d e he w h
 ·exact joinBy_err10 gp gm rank op u v wv ws d e he w h
 ·exact joinBy_err11 gp gm rank op u v wv ws d e he w h
theorem fC (gp gm:Nat) (s:Sg) (ho:ar s.op=2) (u v wv:Value) (l m:List Nd) (ws:Ws) (d:Int) (w:World) (h:PS w gp gm wv ws d 0) (hu:NdsR w (gp+1) u l) (hv:NdsR w (gp+1) v m) :
  Calls Tryz.prog 167 #[.pointer (some ⟨gp,0,none⟩),sgV s,u,v] w fun r w'=>PRR w w' gp gm d (wth ws (jnS s l m)) r:=by
 obtain ⟨rank,op,tn,dn⟩:=s;cases tn <;> cases dn
 ·exact joinBy_ok00 gp gm rank op ho u v wv l m ws d w h hu hv
 ·exact joinBy_ok01 gp gm rank op ho u v wv l m ws d w h hu hv
 ·exact joinBy_ok10 gp gm rank op ho u v wv l m ws d w h hu hv
 ·exact joinBy_ok11 gp gm rank op ho u v wv l m ws d w h hu hv
end Go.Proofs.YtcgjflamgnjhcaaGreatDoor

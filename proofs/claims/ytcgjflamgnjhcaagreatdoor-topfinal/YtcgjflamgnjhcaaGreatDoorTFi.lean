/- The law TopFinal, over this seat's translation. Conditions: the library's tables and the fields' names lie. -/
import Derived.Test.YtcgjflamgnjhcaaGreatDoorEoE0J
set_option linter.unusedVariables false
set_option linter.unusedSimpArgs false
set_option maxRecDepth 100000
set_option maxHeartbeats 8000000
namespace Go.Proofs.YtcgjflamgnjhcaaGreatDoor
open Go.ChangeShapes Go.WideShapes Go.ChangeAt Go.RowKit
theorem topFinal_enters (v : Value) (w : World) : Sem.run Tryz.prog (callFunc 35 #[v]) w = .ok (.enter 35 #[v]) w:=by kernel_rfl
theorem final1_any (v : Value) (w : World) : Calls Tryz.prog 35 #[v] w fun e w' => e = .returned (.bool true) ∧ Below w.heap.size w w':=by
 go_enter Tryz.func35,Tryz.ntmps35
 go_wp2_with fail
 go_ret
 exact ⟨rfl,Below.refl _ _⟩
theorem cellsRw_lenF (r : Rw × Value) : (fU r).length = 5:=rfl
theorem engS_lim {W w : World} {q : Qy} {P : List (List Ev)} {eb : Nat} {M : List (List Ev)} {late : Nat} {tb : List Pn} {rs : List (Rw × Value)} {rdv ckv tv rv : Value} (h : nw W q P eb M late tb rs rdv ckv tv rv w) {p : Nat} {l : List Ev} (hp : M[p]? = some l) {x : Ev} {tb' : List Pn} {rs' : List (Rw × Value)} {late' : Nat} (hs : ik q (bg M) p x tb (rs.map Prod.fst) late tb' (rs'.map Prod.fst) late') {far : Int} (n0 : Nat) (hn : n0 ≤ rs.length)
  (hi : (∃ u',fX q M = some u' ∧ far ≤ u') ∧ ∀ (j : Nat) (r : Rw × Value),n0 ≤ j → rs[j]? = some r → far < r.1.o.1 + (q.size + q.late)) :
  (∃ u',fX q (M.set p (l ++ [x])) = some u' ∧ far ≤ u') ∧ ∀ (j : Nat) (r : Rw × Value),n0 ≤ j → rs'[j]? = some r → far < r.1.o.1 + (q.size + q.late):=by
 obtain ⟨w0,b0,va,vw,vb,ps,V,cs,-,-,-,-,a5,-⟩:=h;obtain ⟨⟨u',hu,hfu⟩,hr⟩:=hi;obtain ⟨u2,hu2,hle⟩:=lim_grows hp x hu;obtain ⟨nr,e,hnr⟩:=step_rows a5 hp hs ⟨u',hu,hfu⟩;refine ⟨⟨u2,hu2,by omega⟩,fun j r hj hjr => ?_⟩;have hj2 : (rs'.map Prod.fst)[j]? = some r.1:=by rw [List.getElem?_map,hjr];rfl
 rw [e] at hj2
 by_cases hjl : j < rs.length
 ·rw [List.getElem?_append_left (by simpa using hjl),List.getElem?_map,List.getElem?_eq_getElem hjl] at hj2;have h9:=hr j rs[j] hj (List.getElem?_eq_getElem hjl);simp only [Option.map_some,Option.some.injEq] at hj2;rw [← hj2];exact h9
 ·rw [List.getElem?_append_right (by simpa using hjl)] at hj2;have h9:=hnr r.1 (List.mem_of_getElem? hj2);omega
theorem adds_new {B : Int → Prop} {ks : List Int} {tb0 tb : List Pn} {rows0 rows : List Rw} {cs : List Ct} (h : AddsE ks tb0 rows0 cs tb rows) : (∀ p ∈ tb0,B p.st) → (∀ c ∈ cs,B c.st) → (∀ p ∈ tb,B p.st) ∧ ∃ nr,rows = rows0 ++ nr ∧ ∀ r ∈ nr,B r.o.1:=by
 induction h with
 | nil => exact fun ht _ => ⟨ht,[],by simp,fun r hr => by simp at hr⟩
 | @snoc cs tb tb' rows rows' c h a ih =>
  intro ht hc;obtain ⟨i1,nr,i2,i3⟩:=ih ht (fun c hc9 => hc c (List.mem_append_left _ hc9));have hcc:=hc c (List.mem_append_right _ (List.mem_singleton.2 rfl))
  rcases a with ⟨j,hj,av,he,e1,e2⟩ | ⟨-,⟨i,av,hi,e1⟩,-,e2⟩
  ·have hpj : B tb[j].st:=i1 _ (List.getElem_mem hj);refine ⟨fun p hp => ?_,nr ++ ib tb[j] c,by rw [e2,i2,List.append_assoc],fun r hr => ?_⟩
   ·rw [e1] at hp
    rcases List.mem_or_eq_of_mem_set hp with hp | hp
    ·exact i1 p hp
    ·rw [hp];exact hcc
   ·rcases List.mem_append.1 hr with hr | hr
    ·exact i3 r hr
    ·unfold ib at hr
     split at hr
     ·simp only [List.mem_cons,List.not_mem_nil,or_false] at hr
      rcases hr with rfl | rfl
      ·exact hpj
      ·exact hpj
     ·simp at hr
  ·refine ⟨fun p hp => ?_,nr,by rw [e2,i2],i3⟩;rw [e1,List.mem_append,List.mem_cons] at hp
   rcases hp with hp | rfl | hp
   ·exact i1 p (List.mem_of_mem_take hp)
   ·exact hcc
   ·exact i1 p (List.mem_of_mem_drop hp)
theorem engS_st {W w : World} {q : Qy} {P : List (List Ev)} {eb : Nat} {M : List (List Ev)} {late : Nat} {tb : List Pn} {rs : List (Rw × Value)} {rdv ckv tv rv : Value} (h : nw W q P eb M late tb rs rdv ckv tv rv w) (hc : chkQ q = 0) (hl : lightM P = true) {p : Nat} {l : List Ev} (hp : M[p]? = some l) {x : Ev} (hx : evC x = 0) {tb' : List Pn} {rs' : List (Rw × Value)} {late' : Nat} (hs : ik q (bg M) p x tb (rs.map Prod.fst) late tb' (rs'.map Prod.fst) late') (n0 : Nat) (hn : n0 ≤ rs.length)
  (hi : ∀ (j : Nat) (r : Rw × Value),n0 ≤ j → rs[j]? = some r → -1000 ≤ r.1.o.1 ∧ r.1.o.1 ≤ 9999) : ∀ (j : Nat) (r : Rw × Value),n0 ≤ j → rs'[j]? = some r → -1000 ≤ r.1.o.1 ∧ r.1.o.1 ≤ 9999:=by
 obtain ⟨w0,b0,va,vw,vb,ps,V,cs,-,-,-,-,a5,a6,-⟩:=h;obtain ⟨l1,l2,l3,l4⟩:=dS a6 hl;have hS:=n7 hc;obtain ⟨tb1,rows1,ha,-,hs⟩:=hs;have htb : ∀ y ∈ tb,-1000 ≤ y.st ∧ y.st ≤ 9999:=fun y hy => by
  rw [a5.en.tb] at hy;exact pG a5.en.ofv (fun c hc9 => lU hS c (a5.perm.mem_iff.1 hc9)) y (List.mem_filter.1 hy).1
 have hcs : ∀ c ∈ takeC q x (bz q ((bg M).getD p 0)) (decide (0 ≤ (bg M).getD p 0)),-1000 ≤ c.st ∧ c.st ≤ 9999:=fun c hc9 => by
  obtain ⟨c1,-⟩:=gF hx M p l hp (l2 l (List.mem_of_getElem? hp)) (q:=q);have hg9 : (bg M).getD p 0 = ej (-1) l:=by
   unfold bg;rw [List.getD_eq_getElem?_getD,List.getElem?_map,hp]
   rfl
  rw [hg9] at hc9;exact lU hS c (c1.symm.mem_iff.1 (List.mem_append_right _ hc9))
 obtain ⟨k1,nr,k2,k3⟩:=adds_new (B:=fun z => -1000 ≤ z ∧ z ≤ 9999) ha htb hcs;have hall : ∃ nr2,rs'.map Prod.fst = rs.map Prod.fst ++ nr2 ∧ ∀ r ∈ nr2,-1000 ≤ r.o.1 ∧ r.o.1 ≤ 9999:=by
  rcases hs with ⟨-,-,e⟩ | ⟨-,-,e⟩
  ·exact ⟨nr,by rw [e,k2],k3⟩
  ·refine ⟨nr ++ bY q (minOf (ei (bg M) p x.t) - q.delay) tb1,by rw [e,k2,List.append_assoc],fun r hr => ?_⟩
   rcases List.mem_append.1 hr with hr | hr
   ·exact k3 r hr
   ·unfold bY at hr;obtain ⟨y,hy,rfl⟩:=List.mem_map.1 hr;exact k1 y (List.mem_filter.1 hy).1
 obtain ⟨nr2,e,hnr⟩:=hall;intro j r hj hjr;have hj2 : (rs'.map Prod.fst)[j]? = some r.1:=by rw [List.getElem?_map,hjr];rfl
 rw [e] at hj2
 by_cases hjl : j < rs.length
 ·rw [List.getElem?_append_left (by simpa using hjl),List.getElem?_map,List.getElem?_eq_getElem hjl] at hj2;have h9:=hi j rs[j] hj (List.getElem?_eq_getElem hjl);simp only [Option.map_some,Option.some.injEq] at hj2;rw [← hj2];exact h9
 ·rw [List.getElem?_append_right (by simpa using hjl)] at hj2;exact hnr r.1 (List.mem_of_getElem? hj2)
theorem step_len {W w : World} {q : Qy} {P : List (List Ev)} {eb : Nat} {M : List (List Ev)} {late : Nat} {tb : List Pn} {rs : List (Rw × Value)} {rdv ckv tv rv : Value} (h : nw W q P eb M late tb rs rdv ckv tv rv w) {p : Nat} {l : List Ev} {x : Ev} {tb' : List Pn} {rs' : List (Rw × Value)} {late' : Nat} (hs : ik q (bg M) p x tb (rs.map Prod.fst) late tb' (rs'.map Prod.fst) late') : rs.length ≤ rs'.length:=by
 obtain ⟨tb1,rows1,ha,-,hs⟩:=hs;have hadd : ∀ {cs : List Ct} {tb2 : List Pn} {rows2 : List Rw},AddsE (q.aggs.map AgQ.kind) tb (rs.map Prod.fst) cs tb2 rows2 → (rs.map Prod.fst).length ≤ rows2.length:=fun h => by
  induction h with
  | nil => exact Nat.le_refl _
  | snoc h a ih =>
   rcases a with ⟨j,hj,av,-,-,e⟩ | ⟨-,-,-,e⟩
   ·rw [e,List.length_append];omega
   ·rw [e];exact ih
 have h1:=hadd ha;rw [List.length_map] at h1
 rcases hs with ⟨-,-,e⟩ | ⟨-,-,e⟩
 ·have:=congrArg List.length e
  rw [List.length_map] at this;omega
 ·have:=congrArg List.length e
  rw [List.length_map,List.length_append] at this;omega
theorem topFinal_walk (s : ByteArray) (pv tv mv : Value) (vs : List Value) (P : List (List Ev)) (T T2 : List Int) (w : World) (ht : TabQ w) (hP : PtsR w pv vs P) (hpl : P.length ≤ maxLen) (hT : oz w tv T) (htl : T.length ≤ maxLen) (hT2 : oz w mv T2) (htl2 : T2.length ≤ maxLen) :
  Calls Tryz.prog 7 #[.string s,pv,tv,mv] w fun e w' => e = .returned (.bool true) ∧ Below w.heap.size w w':=by
 have WK:=aa (works_any w ht);obtain ⟨ap,cp,rfl⟩:=ax hP.row;obtain ⟨at_,ct,rfl⟩:=ax hT;obtain ⟨am,cm,rfl⟩:=ax hT2;have HT:=aa ht;have HP:=aa hP;have HTT:=aa hT;have HTM:=aa hT2;unfold maxLen at htl2;clear ht hP hT hT2
 go_enter Tryz.func7,Tryz.ntmps7
 go_wp2_with fail;refine WK.out.mono ?_;rintro e w1 ⟨rfl,hb1⟩;have B1:=aa hb1;have ASK:=asked_any s w1 (HT.out.below hb1);unfold qk at ASK;have ASKH:=aa ASK;clear WK hb1 ASK HT;go_wp2_with fail;refine ASKH.out.mono ?_;rintro r w2 ⟨hb,hr⟩;have B2:=nxt B1 hb;clear ASKH B1 hb
 rcases hr with rfl | ⟨q,va,vw,vb,ps,hpq,rfl,hqo⟩
 ·unfold qzV;have B3:=aa (B2.out.trans ((aj w2 (.cells #[.slice none 0 0,.slice none 0 0,.slice none 0 0,.int .i64 0,.int .i64 0,.int .i64 0,.int .i64 0] 28)).mono B2.out.size));go_wp2_with fail;refine bodyPost_ret (v:=.bool true) (by simp [results,Tryz.results7,go_sem]) rfl ?_;exact ⟨rfl,B3.out⟩
 ·have hqg:=pL hqo;obtain ⟨ao,cap,rfl⟩:=ax hqg.ag.row;obtain ⟨a2,c2,rfl⟩:=ax hqg.wh;obtain ⟨a3,c3,rfl⟩:=ax hqg.by_;have hba:=aj w2 (.cells #[Value.slice ao ps.length cap,Value.slice a2 q.wh.length c2,Value.slice a3 q.bys.length c3,Value.int .i64 q.size,Value.int .i64 q.slide,Value.int .i64 q.delay,Value.int .i64 q.late] 28);have B3:=aa (B2.out.trans (hba.mono B2.out.size));have G3:=aa (bc hqg hba);have BQ3:=aa (aA w2 [Value.slice ao ps.length cap,Value.slice a2 q.wh.length c2,Value.slice a3 q.bys.length c3,Value.int .i64 q.size,Value.int .i64 q.slide,Value.int .i64 q.delay,Value.int .i64 q.late] 28);have HP3:=aa (fD HP.out B3.out);have HT3:=aa (aB HTT.out B3.out);have HM3:=aa (aB HTM.out B3.out);have FE:=aa (few_any _ _ vs P T _ HP3.out hpl HT3.out htl);have HC:=aa (chk_of_parse hpq);have hlt:=BQ3.out.lt;unfold qyV;clear hqo hqg hba HP HTT HTM hpq;go_wp2_with fail;refine FE.out.mono ?_;rintro e w3 ⟨rfl,hb3⟩;have B4:=aa (B3.out.trans (hb3.mono B3.out.size));obtain ⟨few,hfew⟩ : ∃ b,(decide (0 < P.length) && (lightM P && decide (T.length ≤ 200))) = b:=⟨_,rfl⟩;rw [hfew];cases few with
  | false =>
   clear FE hb3;go_wp2_with fail;refine bodyPost_ret (v:=.bool true) (by simp [results,Tryz.results7,go_sem]) rfl ?_;exact ⟨rfl,B4.out⟩
  | true =>
   by_cases h2 : 200 < T2.length
   ·have d2 : decide ((200 : Int) < (T2.length : Int)) = true:=decide_eq_true (by omega);clear FE hb3;go_wp2_with fail;refine bodyPost_ret (v:=.bool true) (by simp [results,Tryz.results7,go_sem]) rfl ?_;exact ⟨rfl,B4.out⟩
   have d2 : decide ((200 : Int) < (T2.length : Int)) = false:=decide_eq_false (by omega);have h09 : 0 < P.length:=by
    cases h : decide (0 < P.length) with
    | true => exact of_decide_eq_true h
    | false => rw [h] at hfew;cases hfew
   have hl9 : lightM P = true:=by
    rw [decide_eq_true h09,Bool.true_and] at hfew;exact (Bool.and_eq_true_iff.1 hfew).1
   have ht9 : T.length ≤ 200:=by
    rw [decide_eq_true h09,Bool.true_and] at hfew;exact of_decide_eq_true (Bool.and_eq_true_iff.1 hfew).2
   have hP39:=(ed hl9).1;have BQ3:=aa (ai BQ3.out hb3 BQ3.out.lt);have HPX:=aa (fD HP3.out hb3);have HMX:=aa (aB HM3.out hb3);obtain ⟨gp,op,cp',lv0,ep0,-,-,zp1,zp2,-⟩:=g7 HPX.out 0 h09;cases ep0;have RUN:=run0_any 35 _ _ _ _ _ q ps vs P T w3 (bc G3.out hb3) HC.out HPX.out h09 hl9 (aB HT3.out hb3) (by omega) (fun v w => topFinal_enters v w) (fun eb M late tb rs rdv ckv tv rv w h => final1_any _ w);unfold qyV at RUN;have RUNH:=aa RUN;have q0 : w3.cell? ⟨w2.heap.size,0,none⟩ = some (Value.slice ao ps.length cap):=BQ3.out.c 0 (by simp);have q1 : w3.cell? ⟨w2.heap.size,1,none⟩ = some (Value.slice a2 q.wh.length c2):=BQ3.out.c 1 (by simp);have q2 : w3.cell? ⟨w2.heap.size,2,none⟩ = some (Value.slice a3 q.bys.length c3):=BQ3.out.c 2 (by simp);have q3 : w3.cell? ⟨w2.heap.size,3,none⟩ = some (Value.int .i64 q.size):=BQ3.out.c 3 (by simp);have q4 : w3.cell? ⟨w2.heap.size,4,none⟩ = some (Value.int .i64 q.slide):=BQ3.out.c 4 (by simp);have q5 : w3.cell? ⟨w2.heap.size,5,none⟩ = some (Value.int .i64 q.delay):=BQ3.out.c 5 (by simp);have q6 : w3.cell? ⟨w2.heap.size,6,none⟩ = some (Value.int .i64 q.late):=BQ3.out.c 6 (by simp);have lq3:=BQ3.out.lt;unfold maxLen at zp2;clear RUN FE hb3 HP3 HT3 HM3 G3 hfew;go_wp2_with fail;refine RUNH.out.mono ?_;rintro e w4 ⟨eb,late0,tb0,rs0,rdv,ckv0,tv0,rv0,rfl,hE⟩;have HE0:=aa hE;have BQ4 : Hid (BlkAt w4 w2.heap.size [Value.slice ao ps.length cap,Value.slice a2 q.wh.length c2,Value.slice a3 q.bys.length c3,Value.int .i64 q.size,Value.int .i64 q.slide,Value.int .i64 q.delay,Value.int .i64 q.late]):=by
    obtain ⟨w0,b0,va,vw,vb,ps,V,cs,-,-,-,-,-,-,-,a8,-⟩:=hE;exact ai BQ3.out a8 BQ3.out.lt
   have hfacts : ∃ va vw vb rva rvc cka ckc rdg rdc,rv0 = .slice rva rs0.length rvc ∧ ckv0 = .slice cka (bg (runM P T)).length ckc ∧ rdv = .slice (some ⟨rdg,0,none⟩) P.length rdc ∧ BlkAt w4 eb [rdv,ckv0,tv0,ew late0,rv0,va,vw,vb,.int .i64 q.size,.int .i64 q.slide,.int .i64 q.delay,.int .i64 q.late] ∧ w4.ownsRow 0 3 1 ckv0 (bg (runM P T)).length ((bg (runM P T)).map (Value.int .i64)) ∧ nZ (runM P T) P:=by
    obtain ⟨w0,b0,va,vw,vb,ps,V,cs,a1,-,-,-,-,a6,-⟩:=hE;obtain ⟨rva,rvc,e1⟩:=az a1.en.ro;obtain ⟨cka,ckc,e2⟩:=az a1.ck;obtain ⟨g,c,e3,-⟩:=dU a1.rd (by rw [List.length_map,a6.1];exact h09);rw [List.length_map,a6.1] at e3;exact ⟨va,vw,vb,rva,rvc,cka,ckc,g,c,e1,e2,e3,a1.en.be,aN a1.ck (Nat.zero_le _),a6⟩
   obtain ⟨va,vw,vb,rva,rvc,cka,ckc,rdg,rdc,rfl,rfl,rfl,hbe,hck,hpre⟩:=hfacts;have hS9:=n7 HC.out;obtain ⟨l1,l2,l3,l4⟩:=dS hpre hl9;have hcl : (bg (runM P T)).length = P.length:=by unfold bg;rw [List.length_map];exact hpre.1
   have hgb:=iK l2 _ (oa (bg (runM P T)) (by omega));have PTA0:=fun w' (hb : Below w4.heap.size w4 w') => oF (bg (runM P T)) _ q.delay w' (by omega) (by omega) (aB (aH hck) hb)
   rw [m8 q _ (by omega) (by omega) ⟨hS9.d0,by have:=hS9.d1;omega⟩] at PTA0;have hlim : decide (0 ≤ minOf (bg (runM P T))) = true → ∃ u',fX q (runM P T) = some u' ∧ bz q (minOf (bg (runM P T))) ≤ u':=fun e => by
    have h9:=of_decide_eq_true e;unfold fX bz;rw [if_neg (by omega),if_neg (by omega)];exact ⟨_,rfl,Int.le_refl _⟩
   obtain ⟨far,hfar⟩ : ∃ x,bz q (minOf (bg (runM P T))) = x:=⟨_,rfl⟩;obtain ⟨is,his⟩ : ∃ b,decide (0 ≤ minOf (bg (runM P T))) = b:=⟨_,rfl⟩;obtain ⟨ckn,hckn⟩ : ∃ n,(bg (runM P T)).length = n:=⟨_,rfl⟩;rw [hfar,his] at PTA0 hlim;rw [hckn] at PTA0 hbe HE0;have PTA:=aa PTA0;have HLIM:=aa hlim;have BE0:=aa hbe;have e4 : w4.cell? ⟨eb,4,none⟩ = some (.slice rva rs0.length rvc):=hbe.c 4 (by simp);have leb4:=hbe.lt;have hs1:=hS9.s1;have hs2:=hS9.s2;have hs3:=hS9.s3;have hs4:=hS9.l0;have hs5:=hS9.l1;clear hE RUNH hbe hck hpre PTA0 hlim hgb hcl l1 l2 hS9 q0 q1 q2 q3 q4 q5 q6;generalize runM P T = M0 at *;clear hfar his hckn;go_wp2_with fail;refine wp_region_held (S:=fun w' => Below w4.heap.size w4 w') (by kernel_rfl) ?_;have hS : Below w4.heap.size w4 ({ w4 with drawn:=w4.drawn + 1 } : World):=(Below.refl _ _).drew;generalize ({ w4 with drawn:=w4.drawn + 1 } : World) = wd at *;refine HU 0 (v:=.pointer (some ⟨eb,0,none⟩)) rfl (fun wq hq => by go_simp) hS ?_;refine HU 1 (v:=.pointer (some ⟨eb,0,none⟩)) rfl (fun wq hq => by go_simp) hS ?_;refine HU 2 (v:=.pointer (some ⟨eb,1,none⟩)) rfl (fun wq hq => by go_simp) hS ?_;refine HU 3 (v:=.agg #[.slice cka ckn ckc]) rfl (fun wq hq => by have K:=ai BE0.out hq BE0.out.lt;have q1 : wq.cell? ⟨eb,1,none⟩ = some (.slice cka ckn ckc):=K.c 1 (by simp);clear K;go_simp) hS ?_;refine HU 4 (v:=.pointer (some ⟨w2.heap.size,5,none⟩)) rfl (fun wq hq => by go_simp) hS ?_;refine HU 5 (v:=.int .i64 q.delay) rfl (fun wq hq => by have K:=ai BQ4.out hq BQ4.out.lt;have q5 : wq.cell? ⟨w2.heap.size,5,none⟩ = some (.int .i64 q.delay):=K.c 5 (by simp);clear K;go_simp) hS ?_;refine HG 6 rfl ?_;intro K' hK;go_simp;refine (PTA.out _ hS).mono ?_;rintro e w5 ⟨rfl,hb⟩;have hS1:=hS.trans (hb.mono hS.size);refine hK _ _ ⟨hS1,?_⟩;clear hK;refine HU 7 (v:=.tuple #[.int .i64 far,.bool is]) rfl (fun wq hq => by go_simp) hS1 ?_;refine HU 8 (v:=.int .i64 far) rfl (fun wq hq => by go_simp) hS1 ?_;refine HU 9 (v:=.bool is) rfl (fun wq hq => by go_simp) hS1 ?_;refine HU 10 (v:=.int .i64 far) rfl (fun wq hq => by go_simp) hS1 ?_;refine HU 11 (v:=.bool is) rfl (fun wq hq => by go_simp) hS1 ?_;refine wpAnyH_done (by kernel_rfl) ?_ _;have HE5:=aa (dP HE0.out hS1);clear hS hS1 PTA hb e4 BE0 HE0;go_wp2_with fail
   go_loopw [15] (fun i wr => ∃ (m late : Nat) (M : List (List Ev)) (tb : List Pn) (rs : List (Rw × Value)) (ckv tv rv : Value),m ≤ T2.length ∧ i = .int .i64 m ∧ rs0.length ≤ rs.length ∧ Hid (nw w3 q P eb M late tb rs (.slice (some ⟨rdg,0,none⟩) P.length rdc) ckv tv rv wr) ∧ Hid (is = true → (∃ u',fX q M = some u' ∧ far ≤ u') ∧ ∀ (j : Nat) (r : Rw × Value),rs0.length ≤ j → rs[j]? = some r → far < r.1.o.1 + (q.size + q.late)) ∧ Hid (∀ (j : Nat) (r : Rw × Value),rs0.length ≤ j → rs[j]? = some r → -1000 ≤ r.1.o.1 ∧ r.1.o.1 ≤ 9999)) (fun i _ => T2.length - (intOf i).toNat)
   case atStart => exact ⟨0,late0,M0,tb0,rs0,_,_,_,Nat.zero_le _,rfl,Nat.le_refl _,HE5,fun h => ⟨HLIM.out h,fun j r hj hjr => absurd (List.getElem?_eq_some_iff.1 hjr).1 (by omega)⟩,fun j r hj hjr => absurd (List.getElem?_eq_some_iff.1 hjr).1 (by omega)⟩
   case round =>
    clear HE5 HLIM;obtain ⟨m,late,M,tb,rs,ckv,tv,rv,hm,rfl,hrl,HE,HI,HJ⟩:=hrel;have HBW : Hid (Below w3.heap.size w3 wr):=by
     obtain ⟨w0,b0,va,vw,vb,ps,V,cs,-,-,-,-,-,-,-,a8,-⟩:=HE.out;exact a8
    by_cases hlt : m < T2.length
    ·obtain ⟨gt,ot,ct',et,y0,t1,t2,t3⟩:=jx (aB HMX.out HBW.out) m hlt;cases et;have hpl:=kS T2[m] P.length h09;generalize T2[m] = t at *;obtain ⟨hp1,hp2⟩:=hpl;generalize placeE t P.length = p at *;have hML : M.length = P.length:=by
      obtain ⟨w0,b0,va,vw,vb,ps,V,cs,-,-,-,-,-,a6,-⟩:=HE.out;exact a6.1
     obtain ⟨l,hMp⟩ : ∃ l,M[p]? = some l:=⟨_,List.getElem?_eq_getElem (by omega)⟩;obtain ⟨gp',op',cp',lv,ep,hpc,hrl2,-,-,lgp⟩:=g7 (fD HPX.out HBW.out) p hp1;cases ep;have hPp : P[p]? = some P[p]:=List.getElem?_eq_getElem hp1;have hl40:=((ed hl9).2 P[p] (List.getElem_mem hp1)).1;have HSTP:=aa (fun x (h3 : P[p][l.length]? = some x) w' (hb : Below wr.heap.size wr w') => gd (dP HE.out hb) HC.out hl9 hMp hPp h3);generalize P[p] = l' at *;obtain ⟨al,cl,rfl⟩:=ax hrl2;have HRL:=aa hrl2;have HPC:=aa hpc;have hl40b : l.length ≤ 40:=by
      obtain ⟨w0,b0,va,vw,vb,ps,V,cs,-,-,-,-,-,a6,-⟩:=HE.out;exact (dS a6 hl9).1 l (List.mem_of_getElem? hMp)
     have hbe : ∃ va vw vb,BlkAt wr eb [.slice (some ⟨rdg,0,none⟩) P.length rdc,ckv,tv,ew late,rv,va,vw,vb,.int .i64 q.size,.int .i64 q.slide,.int .i64 q.delay,.int .i64 q.late] ∧ wr.cell? ⟨rdg,p,none⟩ = some (.int .i64 (l.length : Int)) ∧ rdg < wr.heap.size:=by
      obtain ⟨w0,b0,va,vw,vb,ps,V,cs,a1,-⟩:=HE.out;have h8:=a1.rd;rw [List.length_map,hML] at h8;have h9:=h8.cellAt p (by omega);rw [List.getElem?_map,List.getElem?_map,hMp] at h9;exact ⟨va,vw,vb,a1.en.be,h9,(aK h8 rdg rfl).2⟩
     obtain ⟨va9,vw9,vb9,hBE,hRD,lrd⟩:=hbe;have BE:=aa hBE;have HRD:=aa hRD;have lebx:=hBE.lt;clear hpc hrl2 hBE hRD;go_wp2_with fail;refine wp_region_held (S:=fun w' => Below wr.heap.size wr w') (by kernel_rfl) ?_;have hS : Below wr.heap.size wr ({ wr with drawn:=wr.drawn + 1 } : World):=(Below.refl _ _).drew;generalize ({ wr with drawn:=wr.drawn + 1 } : World) = wd2 at *;refine HU 0 (v:=.pointer (some ⟨eb,0,none⟩)) rfl (fun wq hq => by go_simp) hS ?_;refine HU 1 (v:=.pointer (some ⟨eb,0,none⟩)) rfl (fun wq hq => by go_simp) hS ?_;refine HU 2 (v:=.pointer (some ⟨eb,0,none⟩)) rfl (fun wq hq => by go_simp) hS ?_;refine HU 3 (v:=.slice (some ⟨rdg,0,none⟩) P.length rdc) rfl (fun wq hq => by have K:=ai BE.out hq BE.out.lt;have q0 : wq.cell? ⟨eb,0,none⟩ = some (.slice (some ⟨rdg,0,none⟩) P.length rdc):=K.c 0 (by simp);clear K;go_simp) hS ?_;refine HU 4 (v:=.int .i64 (p : Int)) rfl (fun wq hq => by go_simp) hS ?_;refine HU 5 (v:=.pointer (some ⟨rdg,p,none⟩)) rfl (fun wq hq => by go_simp) hS ?_;refine HU 6 (v:=.int .i64 (l.length : Int)) rfl (fun wq hq => by have q:=(hq.cell (p:=⟨rdg,p,none⟩) lrd).trans HRD.out;go_simp) hS ?_;refine HU 7 (v:=.slice (some ⟨gp,op,none⟩) P.length cp) rfl (fun wq hq => by go_simp) hS ?_;refine HU 8 (v:=.int .i64 (p : Int)) rfl (fun wq hq => by go_simp) hS ?_;refine HU 9 (v:=.pointer (some ⟨gp,op + p,none⟩)) rfl (fun wq hq => by go_simp) hS ?_;refine HU 10 (v:=.slice al l'.length cl) rfl (fun wq hq => by have q:=(hq.cell (p:=⟨gp,op + p,none⟩) lgp).trans HPC.out;go_simp) hS ?_;refine HU 11 (v:=.int .i64 (l'.length : Int)) rfl (fun wq hq => by go_simp) hS ?_;refine HU 12 (v:=.bool (decide (((l.length : Nat) : Int) < ((l'.length : Nat) : Int)))) rfl (fun wq hq => by go_simp) hS ?_;refine wpAnyH_done (by kernel_rfl) ?_ _
     by_cases hlt2 : l.length < l'.length
     ·have hbq : decide (((l.length : Nat) : Int) < ((l'.length : Nat) : Int)) = true:=decide_eq_true (by omega);rw [hbq];obtain ⟨ge,oe,hae,hce,p1,p2,lge⟩:=bE fE HRL.out l.length hlt2;subst hae;obtain ⟨x,hx⟩ : ∃ x,l'[l.length] = x:=⟨_,rfl⟩;rw [hx] at hce;have hx2 : l'[l.length]? = some x:=by rw [← hx];exact List.getElem?_eq_getElem hlt2
      have HEC:=aa hce;have BEd:=aa (ai BE.out hS BE.out.lt);have ST:=aa (fun w' (hb : Below wr.heap.size wr w') => HSTP.out x hx2 w' hb);unfold dZ at ST;unfold maxLen at p2;clear hce HSTP HRL hx;go_simp;go_wp2_with fail;refine aU (fun w' => Below wr.heap.size wr w') 15 (by kernel_rfl) ?_;have hS2 : Below wr.heap.size wr ({ wd2 with drawn:=wd2.drawn + 1 } : World):=hS.drew;clear hS;have hS:=hS2;clear hS2;generalize ({ wd2 with drawn:=wd2.drawn + 1 } : World) = wd3 at *;refine LU 0 (v:=.pointer (some ⟨eb,0,none⟩)) [15] rfl (fun wq hq => by go_simp) hS ?_;refine LU 1 (v:=.int .i64 (p : Int)) [15] rfl (fun wq hq => by go_simp) hS ?_;refine LU 2 (v:=.slice (some ⟨gp,op,none⟩) P.length cp) [4,5,13,14,15] rfl (fun wq hq => by go_simp) hS ?_;refine LU 3 (v:=.int .i64 (p : Int)) [4,5,13,14,15] rfl (fun wq hq => by go_simp) hS ?_;refine LU 4 (v:=.pointer (some ⟨gp,op + p,none⟩)) [5,13,14,15] rfl (fun wq hq => by go_simp) hS ?_;refine LU 5 (v:=.slice (some ⟨ge,oe,none⟩) l'.length cl) [13,14,15] rfl (fun wq hq => by have q:=(hq.cell (p:=⟨gp,op + p,none⟩) lgp).trans HPC.out;go_simp) hS ?_;refine LU 6 (v:=.pointer (some ⟨eb,0,none⟩)) [7,8,9,11,12,13,14,15] rfl (fun wq hq => by go_simp) hS ?_;refine LU 7 (v:=.pointer (some ⟨eb,0,none⟩)) [8,9,11,12,13,14,15] rfl (fun wq hq => by go_simp) hS ?_;refine LU 8 (v:=.pointer (some ⟨eb,0,none⟩)) [9,11,12,13,14,15] rfl (fun wq hq => by go_simp) hS ?_;refine LU 9 (v:=.slice (some ⟨rdg,0,none⟩) P.length rdc) [11,12,13,14,15] rfl (fun wq hq => by have K:=ai BE.out hq BE.out.lt;have q0 : wq.cell? ⟨eb,0,none⟩ = some (.slice (some ⟨rdg,0,none⟩) P.length rdc):=K.c 0 (by simp);clear K;go_simp) hS ?_;refine LU 10 (v:=.int .i64 (p : Int)) [11,12,13,14,15] rfl (fun wq hq => by go_simp) hS ?_;refine LU 11 (v:=.pointer (some ⟨rdg,p,none⟩)) [12,13,14,15] rfl (fun wq hq => by go_simp) hS ?_;refine LU 12 (v:=.int .i64 (l.length : Int)) [13,14,15] rfl (fun wq hq => by have q:=(hq.cell (p:=⟨rdg,p,none⟩) lrd).trans HRD.out;go_simp) hS ?_;refine LU 13 (v:=.pointer (some ⟨ge,oe + l.length * 7,none⟩)) [14,15] rfl (fun wq hq => by go_simp) hS ?_;refine LU 14 (v:=.agg #[Value.int .i64 x.t,Value.int .i64 x.k1,Value.int .i64 x.k2,Value.int .i64 x.a1,Value.int .i64 x.a2,Value.int .i64 x.b1,Value.int .i64 x.b2]) [15] rfl (fun wq hq => by have q0:=(hq.cell (p:=⟨ge,oe + l.length * 7,none⟩) lge).trans (HEC.out 0 (by omega));have q1:=(hq.cell (p:=⟨ge,oe + (l.length * 7 + 1),none⟩) lge).trans (HEC.out 1 (by omega));have q2:=(hq.cell (p:=⟨ge,oe + (l.length * 7 + 2),none⟩) lge).trans (HEC.out 2 (by omega));have q3:=(hq.cell (p:=⟨ge,oe + (l.length * 7 + 3),none⟩) lge).trans (HEC.out 3 (by omega));have q4:=(hq.cell (p:=⟨ge,oe + (l.length * 7 + 4),none⟩) lge).trans (HEC.out 4 (by omega));have q5:=(hq.cell (p:=⟨ge,oe + (l.length * 7 + 5),none⟩) lge).trans (HEC.out 5 (by omega));have q6:=(hq.cell (p:=⟨ge,oe + (l.length * 7 + 6),none⟩) lge).trans (HEC.out 6 (by omega));simp only [fR,← Nat.add_assoc] at q0 q1 q2 q3 q4 q5 q6;go_simp) hS ?_
      refine LG 15 rfl ?_;intro K' hK;go_simp;refine (ST.out _ hS).mono ?_;rintro e w6 ⟨rfl,late',tb',rs',ckv',tv',rv',E1,S1⟩;have HE1:=aa E1;have HS1:=aa S1;refine hK _ _ ⟨fun h => absurd rfl h,?_⟩;clear hK E1 S1;refine bB (by kernel_rfl) ?_ _;have HI2 : Hid (is = true → (∃ u',fX q (M.set p (l ++ [x])) = some u' ∧ far ≤ u') ∧ ∀ (j : Nat) (r : Rw × Value),rs0.length ≤ j → rs'[j]? = some r → far < r.1.o.1 + (q.size + q.late)):=fun h => engS_lim HE.out hMp HS1.out rs0.length hrl (HI.out h)
      have HJ2 : Hid (∀ (j : Nat) (r : Rw × Value),rs0.length ≤ j → rs'[j]? = some r → -1000 ≤ r.1.o.1 ∧ r.1.o.1 ≤ 9999):=engS_st HE.out HC.out hl9 hMp (((ed hl9).2 l' (List.mem_of_getElem? hPp)).2 x (List.mem_of_getElem? hx2)) HS1.out rs0.length hrl HJ.out;have hrl3 : rs0.length ≤ rs'.length:=Nat.le_trans hrl (step_len (p:=p) (l:=l) HE.out HS1.out);clear ST HEC HRD BE BEd HPC HS1 HE HI HJ;go_simp;go_wp2_with fail;go_roundw
      case rel => exact ⟨m + 1,late',_,tb',rs',ckv',tv',rv',by omega,by go_num,hrl3,HE1,HI2,HJ2⟩
      case measure => simp [intOf];omega
     ·have hbq : decide (((l.length : Nat) : Int) < ((l'.length : Nat) : Int)) = false:=decide_eq_false (by omega);rw [hbq];have HE2:=aa (dP HE.out hS);clear HSTP HE HRL HPC HRD BE;go_simp;go_wp2_with fail;go_roundw
      case rel => exact ⟨m + 1,late,M,tb,rs,ckv,tv,rv,by omega,by go_num,hrl,HE2,HI,HJ⟩
      case measure => simp [intOf];omega
    ·have hml : m = T2.length:=by omega
     subst hml;have hfin : ∃ va vw vb rva rvc B5,rv = .slice rva rs.length rvc ∧ BlkAt wr eb [.slice (some ⟨rdg,0,none⟩) P.length rdc,ckv,tv,ew late,rv,va,vw,vb,.int .i64 q.size,.int .i64 q.slide,.int .i64 q.delay,.int .i64 q.late] ∧ wr.ownsRow B5 80 5 rv rs.length (rowOf fU rs) ∧ rs.length ≤ 600 * kL M ∧ kL M ≤ 120:=by
      obtain ⟨w0,b0,va,vw,vb,ps,V,cs,a1,-,-,-,a5,a6,a7,-⟩:=HE.out;obtain ⟨rva,rvc,e⟩:=az a1.en.ro;obtain ⟨-,-,-,k4⟩:=dS a6 hl9
      have:=preM_evs _ _ a6
      exact ⟨va,vw,vb,rva,rvc,_,e,a1.en.be,a1.en.ro,a7,by omega⟩
     obtain ⟨va8,vw8,vb8,rva8,rvc8,B58,rfl,hBE,hRO,hr600,hev⟩:=hfin;have BE:=aa hBE;have HRO:=aa hRO;have BQr:=aa (ai BQ3.out HBW.out BQ3.out.lt);have HBF:=aa (B4.out.trans (HBW.out.mono B4.out.size));clear hBE hRO HE;go_wp2_with fail
     go_loopw [17] (fun i wx => ∃ j : Nat,rs0.length ≤ j ∧ j ≤ rs.length ∧ i = .int .i64 j ∧ Hid (Below wr.heap.size wr wx)) (fun i _ => rs.length - (intOf i).toNat)
     case atStart => exact ⟨rs0.length,Nat.le_refl _,hrl,rfl,Below.refl _ _⟩
     case round =>
      obtain ⟨j,hj0,hj,rfl,HB⟩:=hrel;have BEr:=ai BE.out HB.out BE.out.lt;have BQx:=ai BQr.out HB.out BQr.out.lt;have e4 : wr.cell? ⟨eb,4,none⟩ = some (.slice rva8 rs.length rvc8):=BEr.c 4 (by simp);have lebx:=BEr.lt
      by_cases hjl : j < rs.length
      ·have q3 : wr.cell? ⟨w2.heap.size,3,none⟩ = some (.int .i64 q.size):=BQx.c 3 (by simp);have q6 : wr.cell? ⟨w2.heap.size,6,none⟩ = some (.int .i64 q.late):=BQx.c 6 (by simp);have lqb:=BQx.lt;obtain ⟨g,off,hao,hcell,z1,z2,lg⟩:=bE cellsRw_lenF (aB (aH HRO.out) HB.out) j hjl;subst hao;have hbd:=HJ.out j rs[j] hj0 (List.getElem?_eq_getElem hjl);have hfr : is = true → far < rs[j].1.o.1 + (q.size + q.late):=fun h => (HI.out h).2 j rs[j] hj0 (List.getElem?_eq_getElem hjl)
       generalize rs[j] = r9 at *;obtain ⟨⟨gone,st,kk,nn,vs9⟩,xv⟩:=r9
       simp only at hbd hfr
       have y1 : wr.cell? ⟨g,off + j * 5 + 1,none⟩ = some (.int .i64 st):=hcell 1 (by omega);have kn:=bM wr;obtain ⟨kc,kf⟩:=bA wr;have HW : Hid (Below wr.heap.size wr wr):=Below.refl _ _;have hw1:=jo (st + q.size) (by omega) (by omega);have hw2:=jo (st + q.size + q.late) (by omega) (by omega);unfold maxLen at z2;clear hcell BEr BQx;go_wp2_with fail;cases is with
       | false =>
        clear hfr;refine aE HW (by kernel_rfl) (by kernel_rfl) ?_
        repeat (go_big_quiet_step (fail))
        refine wpQuiet_nil ?_;rintro _ ⟨pk,rfl⟩;have HP:=aa (HB.out.trans (pk.h.mono HB.out.size));generalize pk.w = wp at *;clear HW HB kc kf kn y1 e4 q3 q6;go_simp;go_wp2_with fail;go_roundw
        case rel => exact ⟨j + 1,by omega,by omega,by go_num,HP⟩
        case measure => simp [intOf];omega
       | true =>
        have hf9:=hfr rfl;have d1 : decide (st + q.size + q.late ≤ far) = false:=decide_eq_false (by omega);clear hfr;refine aE HW (by kernel_rfl) (by kernel_rfl) ?_
        repeat (go_big_quiet_step (fail))
        refine wpQuiet_nil ?_;rintro _ ⟨pk,rfl⟩;have HP:=aa (HB.out.trans (pk.h.mono HB.out.size));generalize pk.w = wp at *;clear HW HB kc kf kn y1 e4 q3 q6;go_simp;go_wp2_with fail;go_roundw
        case rel => exact ⟨j + 1,by omega,by omega,by go_num,HP⟩
        case measure => simp [intOf];omega
      ·have hje : j = rs.length:=by omega
       subst hje;clear BEr BQx;have HFF:=aa (HBF.out.trans (HB.out.mono HBF.out.size));go_wp2_with fail;refine bodyPost_ret (v:=.bool true) (by simp [results,Tryz.results7,go_sem]) rfl ?_;exact ⟨rfl,HFF.out⟩
end Go.Proofs.YtcgjflamgnjhcaaGreatDoor

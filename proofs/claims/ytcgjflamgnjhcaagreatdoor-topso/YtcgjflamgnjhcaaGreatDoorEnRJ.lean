/- Own texts in one. Conditions: as named in each. -/
import Derived.Test.YtcgjflamgnjhcaaGreatDoorEnQJ
import Derived.Test.YtcgjflamgnjhcaaGreatDoorEnFpJ
import Derived.Test.YtcgjflamgnjhcaaGreatDoorEnAJ
import Derived.ProofKit
import Derived.Test.YtcgjflamgnjhcaaGreatDoorKinJ
set_option linter.unusedVariables false
set_option linter.unusedSimpArgs false
set_option maxRecDepth 100000
set_option maxHeartbeats 8000000
namespace Go.Proofs.YtcgjflamgnjhcaaGreatDoor
open Go.ChangeShapes Go.WideShapes Go.ChangeAt Go.RowKit
inductive AddsE (ks:List Int) (tb0:List Pn) (rows0:List Rw):List Ct→List Pn→List Rw→Prop
 | nil:AddsE ks tb0 rows0 [] tb0 rows0
 | snoc {cs:List Ct} {tb tb':List Pn} {rows rows':List Rw} {c:Ct} (h:AddsE ks tb0 rows0 cs tb rows) (a:qA ks tb rows c tb' rows'):AddsE ks tb0 rows0 (cs++[c]) tb' rows'
theorem enI_adds {ks:List Int} {q:Qy} {cs0:List Ct} {lim:Option Int} {tb0:List Pn} {rows0:List Rw} {V:List Pn} (h:EnI ks q cs0 lim tb0 rows0 V) {ds:List Ct} {tb:List Pn} {rows:List Rw} (ha:AddsE ks tb0 rows0 ds tb rows) :
  (∀ d∈ds,nZ q lim d.st=true)→∃ V',EnI ks q (cs0++ds) lim tb rows V':=by
 induction ha with
 | nil=>intro _;exact ⟨V,by rw [List.append_nil];exact h⟩
 | snoc _ a ih =>
  intro hd;obtain ⟨V1,h1⟩:=ih (fun d hd1=>hd d (by simp [hd1]));obtain ⟨V2,h2⟩:=oH h1 _ (hd _ (by simp)) a;exact ⟨V2,by rw [← List.append_assoc];exact h2⟩
theorem endG_eq:∀ (l:List Ev) (g:Int) (k:Bool),(∀ x∈l,evC x=0)→(endG g k l).1=ew g l
 | [],g,k,_=>rfl
 | x :: l,g,k,hx=>by
  have h0:¬ (evC x≠0):=by have:=hx x (by simp);omega
  rw [gC,if_neg h0];exact endG_eq l _ true (fun y hy=>hx y (by simp [hy]))
theorem endG_far1 {l:List Ev} (hx:∀ x∈l,evC x=0) (h:l≠[]):(endG 0 false l).1=ew (-1) l:=by
 cases l with
 | nil=>exact absurd rfl h
 | cons x l =>
  have h0:¬ (evC x≠0):=by have:=hx x (by simp);omega
  obtain ⟨-,t0,-⟩:=kJ (hx x (by simp));rw [gC,if_neg h0,endG_eq l _ true (fun y hy=>hx y (by simp [hy]))]
  show ew (max 0 x.t) l=ew (max (-1) x.t) l
  rw [show max 0 x.t=max (-1) x.t by omega]
theorem farL_nn {l:List Ev} (hx:∀ x∈l,evC x=0):0≤ew (-1) l↔l≠[]:=by
 constructor
 ·exact farL_some
 ·intro h;cases l with
  | nil=>exact absurd rfl h
  | cons x l =>
   obtain ⟨-,t0,-⟩:=kJ (hx x (by simp))
   have:=(farL_bound l (max (-1) x.t) (fun y hy=>hx y (by simp [hy]))).1
   show 0≤ew (max (-1) x.t) l
   omega
theorem takeC_unk (q:Qy) (x:Ev) (u u':Int):takeC q x u false=takeC q x u' false∧takeN q x u false=takeN q x u' false:=by
 have e:∀ a b:Int,eQ q a false=eQ q b false:=fun a b=>funext fun st=>rfl
 unfold takeC takeN ig em;rw [e u u'];exact ⟨rfl,rfl⟩
def bE (q:Qy) (g:Int):Int:=if g < 0 then 0 else g - q.delay
theorem part_more {q:Qy} {l:List Ev} (hx:∀ x∈l,evC x=0) {x:Ev} (hx0:evC x=0) :
  partC q 0 false (l++[x])=partC q 0 false l++takeC q x (bE q (ew (-1) l)) (decide (0≤ew (-1) l))∧partN q 0 false (l++[x])=partN q 0 false l+takeN q x (bE q (ew (-1) l)) (decide (0≤ew (-1) l)):=by
 have h0:¬ (evC x≠0):=by omega
 have one:∀ (g:Int) (k:Bool),partC q g k [x]=takeC q x (g - q.delay) k∧partN q g k [x]=takeN q x (g - q.delay) k:=fun g k=>by
  constructor
  ·rw [ii,if_neg h0]
   simp [partC]
  ·show (if evC x≠0 then _ else _)=_
   rw [if_neg h0]
   simp [partN]
 have napp:∀ (l:List Ev) (g:Int) (k:Bool),partN q g k (l++[x])=partN q g k l+partN q (endG g k l).1 (endG g k l).2 [x]:=by
  intro l
  induction l with
  | nil=>intro g k;simp [partN,endG]
  | cons y l ih =>
   intro g k;rw [List.cons_append,gC]
   show (if evC y≠0 then partN q g k (l++[x]) else takeN q y (g - q.delay) k+partN q (max g y.t) true (l++[x]))=(if evC y≠0 then partN q g k l else takeN q y (g - q.delay) k+partN q (max g y.t) true l)+_
   by_cases h:evC y≠0
   ·rw [if_pos h,if_pos h,if_pos h];exact ih g k
   ·rw [if_neg h,if_neg h,if_neg h,ih];omega
 have key:partC q (endG 0 false l).1 (endG 0 false l).2 [x]=takeC q x (bE q (ew (-1) l)) (decide (0≤ew (-1) l))∧partN q (endG 0 false l).1 (endG 0 false l).2 [x]=takeN q x (bE q (ew (-1) l)) (decide (0≤ew (-1) l)):=by
  by_cases hl:l=[]
  ·subst hl;have e:decide (0≤ew (-1) ([]:List Ev))=false:=by decide
   rw [e,(one _ _).1,(one _ _).2];exact takeC_unk q x _ _
  ·have hn:=(farL_nn hx).2 hl;have e:bE q (ew (-1) l)=ew (-1) l - q.delay:=by unfold bE;rw [if_neg (by omega)]
   rw [decide_eq_true hn,e,endG_some hx hl,endG_far1 hx hl];exact one _ _
 rw [iT,key.1,napp,key.2];exact ⟨rfl,rfl⟩
theorem iS {q:Qy} {x:Ev} (hx0:evC x=0):∀ (M:List (List Ev)) (p:Nat) (l:List Ev),M[p]?=some l→(∀ y∈l,evC y=0) →
  (kj q (M.set p (l++[x]))).Perm (kj q M++takeC q x (bE q (ew (-1) l)) (decide (0≤ew (-1) l)))∧mu q (M.set p (l++[x]))=mu q M+takeN q x (bE q (ew (-1) l)) (decide (0≤ew (-1) l))
 | [],p,l,h,_=>by simp at h
 | m :: M,0,l,h,hx=>by
  simp only [List.getElem?_cons_zero,Option.some.injEq] at h;subst h;obtain ⟨e1,e2⟩:=part_more hx hx0 (q:=q);rw [List.set_cons_zero,ej,ej,ei,ei,e1,e2];refine ⟨?_,by omega⟩;rw [List.append_assoc,List.append_assoc];exact List.perm_append_comm.append_left _
 | m :: M,p+1,l,h,hx=>by
  simp only [List.getElem?_cons_succ] at h;obtain ⟨e1,e2⟩:=iS hx0 M p l h hx (q:=q);rw [List.set_cons_succ,ej,ej,ei,ei,e2];refine ⟨?_,by omega⟩;rw [List.append_assoc];exact e1.append_left _
def ga (r:Rw×Value):List Value:=[.bool r.1.gone,.int .i64 r.1.o.1,.int .i64 r.1.o.2.1,.int .i64 r.1.o.2.2.1,r.2]
def Apt (eb:Nat) (rv v:Value):Prop:=∀ k,(k=eb∨rv.ownBlock=some k)→v.ownBlock≠some k
structure EnM (w0:World) (eb B:Nat) (q:Qy) (rdv ckv ltv va vw vb:Value) (tb:List Pn) (rs:List (Rw×Value)) (tv rv:Value) (w:World):Prop where
 be:BlkAt w eb [rdv,ckv,tv,ltv,rv,va,vw,vb,.int .i64 q.size,.int .i64 q.slide,.int .i64 q.delay,.int .i64 q.late]
 tt:TblR w tv tb
 ta:Apt eb rv tv∧∀ p∈tb,Apt eb rv p.av
 ro:w.ownsRow B 80 5 rv rs.length (rowOf ga rs)
 rn:∀ r∈rs,gi w r.2 2 r.1.o.2.2.2.length (bW r.1.o.2.2.2)∧Apt eb rv r.2
 re:rv.ownBlock≠some eb
 bb:B≤w.heap.size
 old:KeptB w0 w (fun k=>k=eb∨rdv.ownBlock=some k)
 fa:bu B tv∧∀ p∈tb,bu B p.av
 fr:∀ r∈rs,bu B r.2
theorem bZ {w0 w w':World} {eb B:Nat} {q:Qy} {rdv ckv ltv va vw vb:Value} {tb:List Pn} {rs:List (Rw×Value)} {tv rv:Value} (h:EnM w0 eb B q rdv ckv ltv va vw vb tb rs tv rv w) (hb:Below w.heap.size w w'):EnM w0 eb B q rdv ckv ltv va vw vb tb rs tv rv w' :=
 ⟨ah h.be hb h.be.lt,bL h.tt hb,h.ta,aB h.ro hb (Nat.le_refl _),fun r hr=>⟨bM (h.rn r hr).1 hb,(h.rn r hr).2⟩,h.re,Nat.le_trans h.bb hb.size,af h.old (ae (hb.mono (Nat.le_refl _))),h.fa,h.fr⟩
theorem eU {a b c:World} {bad bad':Nat→Prop} (h:KeptB a b bad) (K:KeptB b c bad') (h9:∀ k,k < a.heap.size→bad' k→bad k):KeptB a c bad :=
 ⟨h.b0.trans K.b0,fun i hi hn=>(K.block i (Nat.lt_of_lt_of_le hi h.b0.size) (fun hb=>hn (h9 i hi hb))).trans (h.block i hi hn)⟩
structure QyK (eb:Nat) (rdv va vw vb:Value) (ps:List (AgQ×Value)):Prop where
 ka:∀ g off m c,va=.slice (some ⟨g,off,none⟩) m c→¬ (g=eb∨rdv.ownBlock=some g)
 kw:∀ g off m c,vw=.slice (some ⟨g,off,none⟩) m c→¬ (g=eb∨rdv.ownBlock=some g)
 kb:∀ g off m c,vb=.slice (some ⟨g,off,none⟩) m c→¬ (g=eb∨rdv.ownBlock=some g)
 kp:∀ p∈ps,∀ g off m c,p.2=.slice (some ⟨g,off,none⟩) m c→¬ (g=eb∨rdv.ownBlock=some g)
theorem kW {w w':World} {eb:Nat} {rdv va vw vb:Value} {q:Qy} {ps:List (AgQ×Value)} (h:QyG w va vw vb q ps) (K:KeptB w w' (fun k=>k=eb∨rdv.ownBlock=some k)) (a:QyK eb rdv va vw vb ps):QyG w' va vw vb q ps :=
 ⟨⟨cC h.ag.row K a.ka,fun p hp=>⟨cC (h.ag.nds p hp).1 K (a.kp p hp),(h.ag.nds p hp).2⟩⟩,h.qa,cC h.wh K a.kw,cC h.by_ K a.kb,h.lw,h.lb⟩
theorem jm {eb:Nat} {w:World} {rv rv' v:Value} (h:Apt eb rv v) (hl:∀ k,v.ownBlock=some k→k < w.heap.size) (hrv:rv'.ownBlock=rv.ownBlock∨∃ k,rv'.ownBlock=some k∧w.heap.size≤k):Apt eb rv' v:=fun k hk e=>by
 rcases hk with hk | hk
 ·exact h k (.inl hk) e
 ·rcases hrv with e9 | ⟨k9,e9,h9⟩
  ·exact h k (.inr (by rw [← e9];exact hk)) e
  ·rw [e9] at hk;cases hk
   have:=hl k e
   omega
theorem enM_next {w0 w w':World} {eb B:Nat} {q:Qy} {rdv ckv ltv va vw vb:Value} {tb tb':List Pn} {rs ns:List (Rw×Value)} {tv rv tv' rv':Value} (h:EnM w0 eb B q rdv ckv ltv va vw vb tb rs tv rv w) (h1:w0.heap.size≤B)
  (K:KeptB w w' (fun k=>k=eb∨rv.ownBlock=some k)) (hbe:BlkAt w' eb [rdv,ckv,tv',ltv,rv',va,vw,vb,.int .i64 q.size,.int .i64 q.slide,.int .i64 q.delay,.int .i64 q.late]) (hT:TblR w' tv' tb') (hf:bu w.heap.size tv')
  (ha:∀ p∈tb',p∈tb∨bu w.heap.size p.av) (hro:w'.ownsRow B 80 5 rv' (rs++ns).length (rowOf ga (rs++ns))) (hrv:rv'.ownBlock=rv.ownBlock∨∃ k,rv'.ownBlock=some k∧w.heap.size≤k)
  (hap:∀ k,rv'.ownBlock=some k→w.heap.size≤k→tv'.ownBlock≠some k∧∀ p∈tb',p.av.ownBlock≠some k) (hns:∀ r∈ns,gi w' r.2 2 r.1.o.2.2.2.length (bW r.1.o.2.2.2)∧bu w.heap.size r.2∧∀ k,rv'.ownBlock=some k→w.heap.size≤k→r.2.ownBlock≠some k) :
  EnM w0 eb B q rdv ckv ltv va vw vb tb' (rs++ns) tv' rv' w':=by
 have hlt:=h.be.lt;have hrl:=aJ h.ro
 -- what is new lies apart
 have new:∀ v:Value,bu w.heap.size v→(∀ k,rv'.ownBlock=some k→w.heap.size≤k→v.ownBlock≠some k)→Apt eb rv' v:=fun v hv hn k hk e=>by
  have h9:=hv k e
  rcases hk with hk | hk
  ·omega
  ·exact hn k hk h9 e
 refine ⟨hbe,hT,⟨new _ hf (fun k hk h9=>(hap k hk h9).1),fun p hp=>?_⟩,hro,fun r hr=>?_,?_,Nat.le_trans h.bb K.b0.size,eU h.old K (fun k hk hb=>?_),⟨aM hf h.bb,fun p hp=>(ha p hp).elim (h.fa.2 p) (fun hn=>aM hn h.bb)⟩,fun r hr=>(List.mem_append.1 hr).elim (h.fr r) (fun hr=>aM (hns r hr).2.1 h.bb)⟩
 ·rcases ha p hp with hp0 | hp0
  ·exact jm (h.ta.2 p hp0) (fun k hk=>du (h.tt.acc p hp0) hk) hrv
  ·exact new _ hp0 (fun k hk h9=>(hap k hk h9).2 p hp)
 ·rcases List.mem_append.1 hr with hr | hr
  ·obtain ⟨r1,r2⟩:=h.rn r hr;exact ⟨aX r1 K (fun k hk e=>r2 k e hk),jm r2 (fun k hk=>du r1 hk) hrv⟩
  ·obtain ⟨r1,r2,r3⟩:=hns r hr;exact ⟨r1,new _ r2 r3⟩
 ·rcases hrv with e | ⟨k,e,hk⟩
  ·rw [e];exact h.re
  ·rw [e];intro e9;cases e9;omega
 ·rcases hb with e | e
  ·exact .inl e
  ·have:=(hrl k e).1;omega
theorem oL {ks:List Int} {q:Qy} {cs:List Ct} {lim:Option Int} {tb:List Pn} {rows:List Rw} {V:List Pn} (h:EnI ks q cs lim tb rows V) (hl:cs.length≤490) (hv:∀ d∈cs,d.vs.length=ks.length) (hk:∀ x∈ks,1≤x∧x≤5):TbOk ks tb:=by
 have hsub:∀ p∈tb,p∈V:=fun p hp=>by rw [h.tb] at hp;exact (List.mem_filter.1 hp).1
 refine ⟨?_,?_,fun p hp=>?_⟩
 ·rw [h.tb]
  have:=List.length_filter_le (kpt q lim) V
  have:=h.ofv.few
  omega
 ·rw [h.tb];exact List.Pairwise.filter _ h.ofv.rise
 ·obtain ⟨a1,-⟩:=h.ofv.acc p (hsub p hp);rw [a1];refine ⟨jz ks _ (fun d hd=>hv d (List.mem_filter.1 hd).1),fun a ha=>?_⟩;have h8:=iH ks hk _ a ha
  have:=oQ p.st p.k p.n cs
  exact ⟨h8.1,h8.2.1,h8.2.2.1,by omega⟩
theorem lX {B:Nat} {ks:List Int} {tb tb':List Pn} {c:Ct} {wp:Pn} {rows:List Rw} (h:nY B ks tb c tb' wp) (hs:wp.told=false∨wp.ac.map acV=(d8 wp.ac c.vs).map acV):qA ks tb rows c tb' rows:=by
 rcases h with ⟨j,hj,av,h1,h2,-,-,h4,h5⟩ | ⟨h1,⟨i,av,h2,h3,-⟩,h4,-⟩
 ·refine .inl ⟨j,hj,av,h1,h2,?_⟩;unfold na;rw [if_neg,List.append_nil];rintro ⟨e1,e2⟩
  rcases hs with e | e
  ·rw [h4,e1] at e;cases e
  ·rw [h5] at e;exact e2 e
 ·exact .inr ⟨h1,⟨i,av,h2,h3⟩,h4,rfl⟩
theorem addE_turn {B:Nat} {ks:List Int} {tb tb':List Pn} {c:Ct} {wp:Pn} {rows:List Rw} (h:nY B ks tb c tb' wp) (ht:wp.told=true) (hs:wp.ac.map acV≠(d8 wp.ac c.vs).map acV) :
  qA ks tb rows c tb' (rows++[⟨true,(c.st,c.key.1,c.key.2,wp.ac.map acV)⟩,⟨false,(c.st,c.key.1,c.key.2,(d8 wp.ac c.vs).map acV)⟩]):=by
 rcases h with ⟨j,hj,av,h1,h2,-,-,h4,h5⟩ | ⟨-,-,-,h4⟩
 ·refine .inl ⟨j,hj,av,h1,h2,?_⟩;unfold na;rw [if_pos ⟨by rw [← h4];exact ht,by rw [← h5];exact hs⟩];unfold eT;rw [h5,h1.1,h1.2.1,h1.2.2]
 ·rw [ht] at h4;cases h4
theorem addW_mem {B:Nat} {ks:List Int} {tb tb':List Pn} {c:Ct} {wp:Pn} (h:nY B ks tb c tb' wp):∀ p∈tb',p∈tb∨bu B p.av:=fun p hp=>by
 rcases h with ⟨j,hj,av,-,rfl,h3,-⟩ | ⟨-,⟨i,av,-,rfl,h3⟩,-⟩
 ·rcases List.mem_or_eq_of_mem_set hp with hp | rfl
  ·exact .inl hp
  ·exact .inr h3
 ·rw [List.mem_append,List.mem_cons] at hp
  rcases hp with hp | rfl | hp
  ·exact .inl (List.mem_of_mem_take hp)
  ·exact .inr h3
  ·exact .inl (List.mem_of_mem_drop hp)
theorem enM_tab {w0 wk w2:World} {eb B:Nat} {q:Qy} {rdv ckv ltv va vw vb:Value} {tb tb':List Pn} {rs:List (Rw×Value)} {tv rv tv':Value} (h:EnM w0 eb B q rdv ckv ltv va vw vb tb rs tv rv wk) (h1:w0.heap.size≤B) (hb:Below wk.heap.size wk w2)
  (TT:TblR w2 tv' tb') (FU:bu wk.heap.size tv') (ha:∀ p∈tb',p∈tb∨bu wk.heap.size p.av):EnM w0 eb B q rdv ckv ltv va vw vb tb' rs tv' rv (w2.setCell ⟨eb,2,none⟩ tv'):=by
 have M2:=bZ h hb;have hlt:=h.be.lt;have Kb:=ai (ae (bad:=fun k=>k=eb) (Below.refl w2.heap.size w2)) (g:=eb) rfl 2 tv';have K:=ai (ae (bad:=fun k=>k=eb∨rv.ownBlock=some k) hb) (g:=eb) (.inl rfl) 2 tv';have he:rs++([]:List (Rw×Value))=rs:=List.append_nil rs;have r:=enM_next (ns:=[]) h h1 K (by simpa using az M2.be 2 tv' (by simp)) (cD TT Kb (fun k hk e=>by have:=FU k hk;omega) (fun p hp k hk e=>by
   rcases ha p hp with hp0 | hp0
   ·exact h.ta.2 p hp0 k (.inl e) hk
   ·have:=hp0 k hk;omega)) FU ha (by rw [he];exact bf M2.ro Kb (fun k hk e=>h.re (by rw [← e];exact hk))) (.inl rfl) (fun k hk h9=>by have:=(aJ h.ro k hk).2;omega) (fun r hr=>by simp at hr)
 rw [he] at r;exact r
theorem mH {w0 w w':World} {eb B:Nat} {q:Qy} {rdv ckv ltv va vw vb:Value} {tb:List Pn} {rs ns:List (Rw×Value)} {tv rv rv':Value} (h:EnM w0 eb B q rdv ckv ltv va vw vb tb rs tv rv w) (h1:w0.heap.size≤B)
  (K:KeptB w w' (fun k=>k=eb∨rv.ownBlock=some k)) (hbe:BlkAt w' eb [rdv,ckv,tv,ltv,rv',va,vw,vb,.int .i64 q.size,.int .i64 q.slide,.int .i64 q.delay,.int .i64 q.late]) (hro:w'.ownsRow B 80 5 rv' (rs++ns).length (rowOf ga (rs++ns))) (hrv:rv'.ownBlock=rv.ownBlock∨∃ k,rv'.ownBlock=some k∧w.heap.size≤k)
  (hns:∀ r∈ns,gi w r.2 2 r.1.o.2.2.2.length (bW r.1.o.2.2.2)∧Apt eb rv r.2) (hnf:∀ r∈ns,bu B r.2):EnM w0 eb B q rdv ckv ltv va vw vb tb (rs++ns) tv rv' w':=by
 have hlt:=h.be.lt;have hrl:=aJ h.ro;refine ⟨hbe,cD h.tt K (fun k hk e=>h.ta.1 k e hk) (fun p hp k hk e=>h.ta.2 p hp k e hk),⟨jm h.ta.1 (fun k hk=>du h.tt.row hk) hrv,fun p hp=>jm (h.ta.2 p hp) (fun k hk=>du (h.tt.acc p hp) hk) hrv⟩,hro,fun r hr=>?_,?_,Nat.le_trans h.bb K.b0.size,eU h.old K (fun k hk hb=>?_),h.fa,fun r hr=>(List.mem_append.1 hr).elim (h.fr r) (hnf r)⟩
 ·have hr2:gi w r.2 2 r.1.o.2.2.2.length (bW r.1.o.2.2.2)∧Apt eb rv r.2:=by
   rcases List.mem_append.1 hr with hr | hr
   ·exact h.rn r hr
   ·exact hns r hr
  exact ⟨aX hr2.1 K (fun k hk e=>hr2.2 k e hk),jm hr2.2 (fun k hk=>du hr2.1 hk) hrv⟩
 ·rcases hrv with e | ⟨k,e,hk⟩
  ·rw [e];exact h.re
  ·rw [e];intro e9;cases e9;omega
 ·rcases hb with e | e
  ·exact .inl e
  ·have:=(hrl k e).1;omega
def oY (w0:World) (eb B:Nat) (q:Qy) (rdv ckv ltv va vw vb:Value) (cs0:List Ct) (lim:Option Int) (tb0:List Pn) (rows0:List Rw) (r0:Nat):List Ct→Option Nat→World→Prop:=fun cs rb w =>
 ∃ tb rs tv rv V,EnM w0 eb B q rdv ckv ltv va vw vb tb rs tv rv w∧rb=rv.ownBlock∧EnI (q.aggs.map AgQ.kind) q (cs0++cs) lim tb (rs.map Prod.fst) V∧AddsE (q.aggs.map AgQ.kind) tb0 rows0 cs tb (rs.map Prod.fst)∧(∀ d∈cs,d.vs.length=q.aggs.length)∧rs.length≤r0+2 * cs.length
end Go.Proofs.YtcgjflamgnjhcaaGreatDoor
namespace Go.Proofs.YtcgjflamgnjhcaaGreatDoor
def eO (G:List Int) (p:Nat) (t:Int):List Int:=G.set p (max (G.getD p 0) t)
def dy (n:Nat):List Int:=List.replicate n (-1)
theorem jF (G:List Int) (p:Nat) (t:Int):(eO G p t).length=G.length:=by simp [eO]
theorem none_len (n:Nat):(dy n).length=n:=by simp [dy]
theorem see_get (G:List Int) (p:Nat) (t:Int) (i:Nat) (hi:i < G.length):(eO G p t).getD i 0=if i=p then max (G.getD p 0) t else G.getD i 0:=by
 unfold eO;rw [List.getD_eq_getElem?_getD,List.getElem?_set]
 by_cases h:p=i
 ·subst h
  simp [hi]
 ·have h':¬ i=p:=fun e=>h e.symm
  simp [h,h',List.getD_eq_getElem?_getD]
theorem nums_ext {A B:List Int} (h:A.length=B.length) (hk:∀ i,i < A.length→A.getD i 0=B.getD i 0):A=B:=by
 apply List.ext_getElem h
 intro i h1 h2
 have:=hk i h1
 simpa [List.getD,h1,h2] using this
def minOf:List Int→Int
 | []=>0
 | [a]=>a
 | a :: b :: l=>min a (minOf (b :: l))
theorem min_le:∀ (G:List Int) (i:Nat),i < G.length→minOf G≤G.getD i 0
 | [],i,h=>by simp at h
 | [a],i,h=>by
  have:i=0:=by simp at h;omega
  subst this
  simp [minOf]
 | a :: b :: l,0,h=>by simp [minOf];omega
 | a :: b :: l,i+1,h=>by
  have:=min_le (b :: l) i (by simpa using h)
  simp only [minOf,List.getD_cons_succ];omega
theorem min_at:∀ (G:List Int),0 < G.length→∃ i,i < G.length∧minOf G=G.getD i 0
 | [],h=>by simp at h
 | [a],h=>⟨0,by simp,by simp [minOf]⟩
 | a :: b :: l,h=>by
  obtain ⟨i,hi,he⟩:=min_at (b :: l) (by simp)
  by_cases hab:a≤minOf (b :: l)
  ·exact ⟨0,by simp,by simp only [minOf,List.getD_cons_zero];omega⟩
  ·refine ⟨i+1,by simpa using hi,?_⟩;simp only [minOf,List.getD_cons_succ];omega
theorem min_is {G:List Int} {i:Nat} (hi:i < G.length) (h:∀ j,j < G.length→G.getD i 0≤G.getD j 0):minOf G=G.getD i 0:=by
 have h1:=min_le G i hi;obtain ⟨j,hj,he⟩:=min_at G (by omega)
 have:=h j hj
 omega
theorem min_grows {G:List Int} {p:Nat} {t:Int} (h:0 < G.length):minOf G≤minOf (eO G p t):=by
 obtain ⟨j,hj,he⟩:=min_at (eO G p t) (by rw [jF];exact h);rw [jF] at hj;rw [he,see_get _ _ _ _ hj]
 have:=min_le G j hj
 split
 ·subst_vars
  omega
 ·exact this
end Go.Proofs.YtcgjflamgnjhcaaGreatDoor
namespace Go.Proofs.YtcgjflamgnjhcaaGreatDoor
open Go.ChangeShapes Go.WideShapes Go.ChangeAt Go.RowKit
def bD (M:List (List Ev)):List Int:=M.map (ew (-1))
def iA (q:Qy) (M:List (List Ev)):Option Int:=if minOf (bD M) < 0 then none else some (minOf (bD M) - q.delay)
theorem oS {M:List (List Ev)} {p:Nat} {l:List Ev} (h:M[p]?=some l) (x:Ev):bD (M.set p (l++[x]))=eO (bD M) p x.t:=by
 unfold bD eO;rw [List.map_set]
 congr 1
 have e:(M.map (ew (-1))).getD p 0=ew (-1) l:=by
  rw [List.getD_eq_getElem?_getD,List.getElem?_map,h]
  rfl
 rw [e]
 simp [ew,List.foldl_append]
structure RunI (q:Qy) (M:List (List Ev)) (tb:List Pn) (rows:List Rw) (late:Nat) (V:List Pn) (cs:List Ct):Prop where
 perm:cs.Perm (kj q M)
 late:late=mu q M
 en:EnI (q.aggs.map AgQ.kind) q cs (iA q M) tb rows V
 due:∀ p∈V,qS q (iA q M) p→p.told=true
def lP (q:Qy) (G:List Int) (p:Nat) (x:Ev) (tb:List Pn) (rows:List Rw) (late:Nat) (tb':List Pn) (rows':List Rw) (late':Nat):Prop :=
 ∃ tb1 rows1,AddsE (q.aggs.map AgQ.kind) tb rows (takeC q x (bE q (G.getD p 0)) (decide (0≤G.getD p 0))) tb1 rows1∧late'=late+takeN q x (bE q (G.getD p 0)) (decide (0≤G.getD p 0)) ∧
  ((minOf (eO G p x.t) < 0∧tb'=tb1∧rows'=rows1)∨(0≤minOf (eO G p x.t)∧tb'=lL q (minOf (eO G p x.t) - q.delay) tb1∧rows'=rows1++dI q (minOf (eO G p x.t) - q.delay) tb1))
theorem gx (q:Qy):∀ (n:Nat),kj q (List.replicate n [])=[]∧mu q (List.replicate n [])=0
 | 0=>⟨rfl,rfl⟩
 | n+1=>by
  rw [List.replicate_succ,ej,ei,(gx q n).1,(gx q n).2];exact ⟨rfl,rfl⟩
theorem run_start (q:Qy) (n:Nat) (h:0 < n):RunI q (List.replicate n []) [] [] 0 [] []:=by
 have e:iA q (List.replicate n [])=none:=by
  unfold iA bD;rw [if_pos];obtain ⟨i,hi,e⟩:=min_at (List.map (ew (-1)) (List.replicate n [])) (by simpa using h);rw [e,List.getD_eq_getElem?_getD];simp at hi
  simp [List.getElem?_replicate,hi,ew]
 exact ⟨by rw [(gx q n).1],by rw [(gx q n).2],by rw [e];exact enI_nil _ q,fun p hp=>by simp at hp⟩
theorem run_step {q:Qy} {M:List (List Ev)} {tb tb':List Pn} {rows rows':List Rw} {late late':Nat} {V:List Pn} {cs:List Ct} (h:RunI q M tb rows late V cs) {p:Nat} {l:List Ev} (hp:M[p]?=some l) (hl:∀ y∈l,evC y=0) {x:Ev} (hx:evC x=0) (hq:0≤q.late)
  (hs:lP q (bD M) p x tb rows late tb' rows' late'):∃ V' cs',RunI q (M.set p (l++[x])) tb' rows' late' V' cs':=by
 obtain ⟨tb1,rows1,ha,hlt,hs⟩:=hs;have hpl:p < (bD M).length:=by
  unfold bD;rw [List.length_map];exact (List.getElem?_eq_some_iff.1 hp).1
 have hg:(bD M).getD p 0=ew (-1) l:=by
  unfold bD;rw [List.getD_eq_getElem?_getD,List.getElem?_map,hp]
  rfl
 rw [hg] at ha hlt;obtain ⟨c1,c2⟩:=iS hx M p l hp hl (q:=q);have hmin:minOf (bD M)≤ew (-1) l:=by rw [← hg];exact min_le _ p hpl
 have hgrow:minOf (bD M)≤minOf (eO (bD M) p x.t):=min_grows (by omega);have hk:∀ d∈takeC q x (bE q (ew (-1) l)) (decide (0≤ew (-1) l)),nZ q (iA q M) d.st=true:=fun d hd=>by
  unfold iA
  by_cases hm:minOf (bD M) < 0
  ·rw [if_pos hm];rfl
  ·rw [if_neg hm];have h0:0≤ew (-1) l:=by omega
   rw [decide_eq_true h0] at hd;have e:bE q (ew (-1) l)=ew (-1) l - q.delay:=by unfold bE;rw [if_neg (by omega)]
   rw [e] at hd;unfold takeC at hd
   split at hd
   ·unfold ig at hd;obtain ⟨st,h1,rfl⟩:=List.mem_map.1 hd;have h2:=(List.mem_filter.1 h1).2;simp only [eQ,Bool.true_and,Bool.not_eq_true',decide_eq_false_iff_not] at h2;unfold nZ;simp only [Bool.not_eq_true',decide_eq_false_iff_not];omega
   ·simp at hd
 obtain ⟨V1,h1⟩:=enI_adds h.en ha hk;have hset:=oS hp x;have hperm:(cs++takeC q x (bE q (ew (-1) l)) (decide (0≤ew (-1) l))).Perm (kj q (M.set p (l++[x]))):=(h.perm.append_right _).trans c1.symm;have hlate:late'=mu q (M.set p (l++[x])):=by rw [hlt,c2,h.late]
 rcases hs with ⟨hm,rfl,rfl⟩ | ⟨hm,rfl,rfl⟩
 ·have e1:iA q M=none:=by unfold iA;rw [if_pos (by omega)]
  have e2:iA q (M.set p (l++[x]))=none:=by unfold iA;rw [hset,if_pos hm]
  rw [e1] at h1;exact ⟨V1,_,hperm,hlate,by rw [e2];exact h1,fun p hp=>by rw [e2];rintro ⟨u,e,-⟩;cases e⟩
 ·have e2:iA q (M.set p (l++[x]))=some (minOf (eO (bD M) p x.t) - q.delay):=by unfold iA;rw [hset,if_neg (by omega)]
  obtain ⟨t1,t2⟩:=enI_tell h1 (minOf (eO (bD M) p x.t) - q.delay) (fun u0 e=>by
   unfold iA at e
   split at e
   ·cases e
   ·cases e;omega) hq
  exact ⟨_,_,hperm,hlate,by rw [e2];exact t1,fun p hp he=>t2 p hp (by rw [← e2];exact he)⟩
theorem ofV_mem {ks:List Int} {cs cs':List Ct} {V tA:List Pn} (h:OfV ks cs V) (h':OfT ks cs' tA) (hk:qD ks cs cs') (x:Ot):x∈V.map eT↔x∈tA.map eT:=by
 constructor
 ·intro hx;obtain ⟨p,hp,rfl⟩:=List.mem_map.1 hx;obtain ⟨h1,h2⟩:=h.acc p hp;obtain ⟨e1,e2⟩:=hk p.st p.k p.n;obtain ⟨c,hc⟩:=List.exists_mem_of_ne_nil _ (fun e=>h2 (e2.2 e));have hcm:=List.mem_filter.1 hc;have hck:c.st=p.st∧c.key.1=p.k∧c.key.2=p.n:=by simpa using hcm.2
  obtain ⟨p',hp',k1,k2,k3⟩:=h'.all c hcm.1;have h3:=(h'.acc p' hp').2.1;refine List.mem_map.2 ⟨p',hp',?_⟩;unfold eT;rw [h3,h1,k1,k2,k3,hck.1,hck.2.1,hck.2.2,e1]
 ·intro hx;obtain ⟨p,hp,rfl⟩:=List.mem_map.1 hx;obtain ⟨-,h1,h2⟩:=h'.acc p hp;obtain ⟨e1,e2⟩:=hk p.st p.k p.n;obtain ⟨c,hc⟩:=List.exists_mem_of_ne_nil _ (fun e=>h2 (e2.1 e));have hcm:=List.mem_filter.1 hc;have hck:c.st=p.st∧c.key.1=p.k∧c.key.2=p.n:=by simpa using hcm.2
  obtain ⟨p',hp',k1,k2,k3⟩:=h.all c hcm.1;have h3:=(h.acc p' hp').1;refine List.mem_map.2 ⟨p',hp',?_⟩;unfold eT;rw [h3,h1,k1,k2,k3,hck.1,hck.2.1,hck.2.2,e1]
theorem pH {q:Qy} {M:List (List Ev)} {tb:List Pn} {rows:List Rw} {late:Nat} {V:List Pn} {cs:List Ct} (h:RunI q M tb rows late V cs):∃ out,netL [] rows=some out∧(out.map dv).Nodup∧(iA q M=none→out=[]) ∧
  ∀ u tA,iA q M=some u→OfT (q.aggs.map AgQ.kind) (kj q M) tA→∀ x,x∈out↔x∈(tA.map eT).filter (qj q.size u):=by
 obtain ⟨out,n1,n2,n3⟩:=h.en.net;refine ⟨out,n1,n2,fun e=>?_,fun u tA e hA x=>?_⟩
 ·refine List.eq_nil_iff_forall_not_mem.2 fun x hx=>?_
  obtain ⟨p,hp,ht,-⟩:=(n3 x).1 hx;obtain ⟨u,e1,-⟩:=h.en.told p hp ht;rw [e] at e1;cases e1
 ·have hm:=ofV_mem h.en.ofv hA (sameK_perm _ h.perm) x;rw [n3 x,List.mem_filter,← hm]
  constructor
  ·rintro ⟨p,hp,ht,rfl⟩;obtain ⟨u0,e1,e2⟩:=h.en.told p hp ht;rw [e] at e1;cases e1;exact ⟨List.mem_map_of_mem hp,decide_eq_true e2⟩
  ·rintro ⟨hx,hu⟩;obtain ⟨p,hp,rfl⟩:=List.mem_map.1 hx;exact ⟨p,hp,h.due p hp ⟨u,e,of_decide_eq_true hu⟩,rfl⟩
abbrev pD (w:World) (v:Value) (G:List Int):Prop:=bK w v 1 G.length (G.map (Value.int .i64))
theorem kZ {w:World} {v:Value} {G:List Int} (h:pD w v G) (h0:0 < G.length) :
  ∃ g off cap,v=.slice (some ⟨g,off,none⟩) G.length cap∧G.length≤cap∧cap≤maxLen∧g < w.heap.size∧∀ i,i < G.length→w.cell? ⟨g,off+i,none⟩=some (.int .i64 (G.getD i 0)):=by
 rcases h.2 with ⟨-,hn⟩ | ⟨g,off,cap,rfl,h1,h2,h3,h4⟩
 ·omega
 ·refine ⟨g,off,cap,rfl,h1,h2,h3,fun i hi=>?_⟩;rw [h4 i (by omega)]
  simp [List.getD,hi]
theorem ol (n:Nat) (ao:Option Addr) (cap:Nat) (p:Int) (w:World) (hn:n≤1000) :
  Calls Tryz.prog 85 #[.agg #[.slice ao n cap],.int .i64 p] w fun e w'=>e=.returned (.bool (decide (0≤p) && decide (p < (n:Int))))∧Below w.heap.size w w':=by
 by_cases h1:0≤p
 ·have d1:decide (0≤p)=true:=by simp [h1]
  rw [d1]
  by_cases h2:p < (n:Int)
  ·have d2:decide (p < (n:Int))=true:=by simp [h2]
   rw [d2]
   go_enter Tryz.func85,Tryz.ntmps85
   go_wp2_with fail
   go_ret
   exact ⟨rfl,(Below.refl _ _).alloc (Nat.le_refl _) _⟩
  ·have d2:decide (p < (n:Int))=false:=by simp;omega
   rw [d2]
   go_enter Tryz.func85,Tryz.ntmps85
   go_wp2_with fail
   go_ret
   exact ⟨rfl,(Below.refl _ _).alloc (Nat.le_refl _) _⟩
 ·have d1:decide (0≤p)=false:=by simp;omega
  rw [d1]
  go_enter Tryz.func85,Tryz.ntmps85
  go_wp2_with fail
  go_ret
  exact ⟨rfl,(Below.refl _ _).alloc (Nat.le_refl _) _⟩
def mC (x delay:Int):Value:=if x≤-1 then .tuple #[.int .i64 0,.bool false] else .tuple #[.int .i64 (RowKit.wrap64 (x - delay)),.bool true]
theorem nz (G:List Int) (v:Value) (p:Nat) (delay:Int) (w:World) (hl:G.length≤1000) (hp:p < G.length) (hr:pD w v G) :
  Calls Tryz.prog 45 #[.agg #[v],.int .i64 p,.int .i64 delay] w fun e w'=>e=.returned (mC (G.getD p 0) delay)∧Below w.heap.size w w':=by
 obtain ⟨g,off,cap,rfl,l1,l2,l3,hc0⟩:=kZ hr (by omega);have cp:=hc0 p hp;have HA:=aa (fun w=>ol G.length (some ⟨g,off,none⟩) cap p w hl);have d1:decide (0≤(p:Int))=true:=by simp
 have d2:decide ((p:Int) < (G.length:Int))=true:=by simp;omega
 rw [d1,d2] at HA;clear hc0 hr d1 d2;unfold maxLen at l2;generalize G.getD p 0=x at *;have H1:Hid (Below w.heap.size w (w.alloc (.cells #[.slice (some ⟨g,off,none⟩) G.length cap] 63))):=(Below.refl _ _).alloc (Nat.le_refl _) _;simp only [Bool.and_self] at HA;unfold mC
 by_cases hx:x≤-1
 ·rw [if_pos hx];have dx:decide (x≤-1)=true:=by simp [hx]
  go_enter Tryz.func45,Tryz.ntmps45
  go_wp2_with fail;refine (HA.out _).mono ?_;rintro e w1 ⟨rfl,hb⟩;have HB:=aa hb;clear hb;obtain ⟨hc,hf⟩:=rules HB;go_wp2_with fail
  go_ret2
  exact ⟨rfl,done H1.out HB⟩
 ·rw [if_neg hx];have dx:decide (x≤-1)=false:=by simp;omega
  go_enter Tryz.func45,Tryz.ntmps45
  go_wp2_with fail;refine (HA.out _).mono ?_;rintro e w1 ⟨rfl,hb⟩;have HB:=aa hb;clear hb;obtain ⟨hc,hf⟩:=rules HB;go_wp2_with fail
  go_ret2
  exact ⟨rfl,done H1.out HB⟩
theorem oz (G:List Int) (v:Value) (delay:Int) (w:World) (hl:G.length≤1000) (h0:0 < G.length) (hr:pD w v G) :
  Calls Tryz.prog 32 #[.agg #[v],.int .i64 delay] w fun e w'=>e=.returned (mC (minOf G) delay)∧Below w.heap.size w w':=by
 obtain ⟨g,off,cap,rfl,l1,l2,l3,hc0⟩:=kZ hr h0;have HC:=aa hc0;have HR:=aa hr;clear hc0 hr;unfold maxLen at l2;have H1:Hid (Below w.heap.size w (w.alloc (.cells #[.slice (some ⟨g,off,none⟩) G.length cap] 63))):=(Below.refl _ _).alloc (Nat.le_refl _) _
 go_enter Tryz.func32,Tryz.ntmps32
 go_wp2_with fail;have CX:Hid (∀ i,i < G.length→(w.alloc (.cells #[.slice (some ⟨g,off,none⟩) G.length cap] 63)).cell? ⟨g,off+i,none⟩=some (.int .i64 (G.getD i 0))):=fun i hi=>(H1.out.cell (p:=⟨g,off+i,none⟩) l3).trans (HC.out i hi)
 have cc:(w.alloc (.cells #[.slice (some ⟨g,off,none⟩) G.length cap] 63)).cell? ⟨w.heap.size,0,none⟩=some (.slice (some ⟨g,off,none⟩) G.length cap):=by go_simp
 have lc:w.heap.size < (w.alloc (.cells #[.slice (some ⟨g,off,none⟩) G.length cap] 63)).heap.size:=by simp
 have RX:=aa (aA HR.out H1.out);generalize (w.alloc (.cells #[.slice (some ⟨g,off,none⟩) G.length cap] 63))=wx at *;have lg:g < wx.heap.size:=by omega
 clear HC HR
 go_loopw [6,11] (fun ls i wr=>∃ (j n:Nat),j < G.length∧n≤G.length∧ls=.int .i64 j∧i=.int .i64 n∧Hid (∀ m,m < n→G.getD j 0≤G.getD m 0)∧Hid (Below wx.heap.size wx wr)) (fun _ i _=>G.length - (intOf i).toNat)
 case atStart=>exact ⟨0,0,h0,Nat.zero_le _,rfl,rfl,fun m hm=>absurd hm (by omega),Below.refl _ _⟩
 case round =>
  obtain ⟨j,n,hj,hn,rfl,rfl,HM,HB⟩:=hrel
  by_cases hlt:n < G.length
  ·have cx:=CX.out n hlt;have cy:=CX.out j hj;have kn:=bJ wx;obtain ⟨kc,kf⟩:=bB wx
   by_cases hxy:G.getD n 0 < G.getD j 0
   ·have HM2:Hid (∀ m,m < n+1→G.getD n 0≤G.getD m 0):=fun m hm=>by
     by_cases h9:m=n
     ·subst h9;exact Int.le_refl _
     ·have:=HM.out m (by omega);omega
    have HM3:Hid (∀ m,m < n+1→G.getD n 0≤G.getD m 0):=HM2;obtain ⟨x,hx⟩:∃ x,G.getD n 0=x:=⟨_,rfl⟩;obtain ⟨y,hy⟩:∃ y,G.getD j 0=y:=⟨_,rfl⟩;rw [hx] at cx hxy;rw [hy] at cy hxy;clear hx hy;have dxy:decide (x < y)=true:=by simp [hxy]
    go_wp2_with fail;refine aE HB (by kernel_rfl) (by kernel_rfl) ?_
    repeat (go_big_quiet_step (fail))
    refine wpQuiet_nil ?_;rintro _ ⟨pk,rfl⟩;have HP:=aa pk.h;generalize pk.w=wp at *;clear kc kf kn;go_wp2_with fail;go_roundw
    case rel=>exact ⟨n,n+1,hlt,by omega,rfl,by go_num,HM3.out,HP⟩
    case measure=>simp [intOf];omega
   ·have HM2:Hid (∀ m,m < n+1→G.getD j 0≤G.getD m 0):=fun m hm=>by
     by_cases h9:m=n
     ·subst h9;omega
     ·exact HM.out m (by omega)
    have HM3:Hid (∀ m,m < n+1→G.getD j 0≤G.getD m 0):=HM2;obtain ⟨x,hx⟩:∃ x,G.getD n 0=x:=⟨_,rfl⟩;obtain ⟨y,hy⟩:∃ y,G.getD j 0=y:=⟨_,rfl⟩;rw [hx] at cx hxy;rw [hy] at cy hxy;clear hx hy;have dxy:decide (x < y)=false:=by simp;omega
    go_wp2_with fail;refine aE HB (by kernel_rfl) (by kernel_rfl) ?_
    repeat (go_big_quiet_step (fail))
    refine wpQuiet_nil ?_;rintro _ ⟨pk,rfl⟩;have HP:=aa pk.h;generalize pk.w=wp at *;clear kc kf kn;go_wp2_with fail;go_roundw
    case rel=>exact ⟨j,n+1,hj,by omega,rfl,by go_num,HM3.out,HP⟩
    case measure=>simp [intOf];omega
  ·have hnl:n=G.length:=by omega
   subst hnl;have EM:=aa (min_is hj HM.out);have PA:=aa (fun w' hb=>nz G _ j delay w' hl hj (aA RX.out hb));rw [← EM.out] at PA;clear HM;generalize hV:mC (minOf G) delay=V at *;obtain ⟨q1,q2,rfl⟩:∃ q1 q2,V=.tuple #[.int .i64 q1,.bool q2]:=by
    rw [← hV];unfold mC
    split
    ·exact ⟨_,_,rfl⟩
    ·exact ⟨_,_,rfl⟩
   have HV:=aa hV;clear hV EM;obtain ⟨hc,hf⟩:=rules HB;go_wp2_with fail;refine (PA.out _ HB.out).mono ?_;rintro e w1 ⟨rfl,hb⟩;have HB:=nxt HB hb;clear hb;go_wp2_with fail
   go_ret2
   exact ⟨by rw [HV.out];rfl,done H1.out HB⟩
end Go.Proofs.YtcgjflamgnjhcaaGreatDoor

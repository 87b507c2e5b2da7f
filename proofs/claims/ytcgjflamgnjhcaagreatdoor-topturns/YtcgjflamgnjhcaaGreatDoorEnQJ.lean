/- Own texts in one. Conditions: as named in each. -/
import Derived.Test.YtcgjflamgnjhcaaGreatDoorPaneCJ
import Derived.Test.YtcgjflamgnjhcaaGreatDoorChkQJ
import Derived.Test.YtcgjflamgnjhcaaGreatDoorEnFJ
import Derived.ProofKit
set_option linter.unusedVariables false
set_option linter.unusedSimpArgs false
set_option maxRecDepth 100000
set_option maxHeartbeats 8000000
namespace Go.Proofs.YtcgjflamgnjhcaaGreatDoor
open Go.ChangeShapes Go.WideShapes Go.ChangeAt Go.RowKit
def mR (p:Pn) (c:Ct):List Rw :=
 if p.told=true∧p.ac.map acV≠(dD p.ac c.vs).map acV then [⟨true,fj p⟩,⟨false,(p.st,p.k,p.n,(dD p.ac c.vs).map acV)⟩] else []
def qr (ks:List Int) (tb:List Pn) (rows:List Rw) (c:Ct) (tb':List Pn) (rows':List Rw):Prop :=
 (∃ (j:Nat) (hj:j < tb.length) (av:Value),(tb[j].st=c.st∧tb[j].k=c.key.1∧tb[j].n=c.key.2)∧tb'=tb.set j ⟨c.st,c.key.1,c.key.2,tb[j].told,dD tb[j].ac c.vs,av⟩∧rows'=rows++mR tb[j] c) ∨
 ((∀ p∈tb,¬ (p.st=c.st∧p.k=c.key.1∧p.n=c.key.2))∧(∃ (i:Nat) (av:Value),i≤tb.length∧tb'=tb.take i++⟨c.st,c.key.1,c.key.2,false,dD (ks.map iw) c.vs,av⟩ :: tb.drop i)∧jD tb'∧rows'=rows)
def nV (q:Qy) (lim:Option Int) (st:Int):Bool:=match lim with
 | none=>true
 | some u=>!decide (st+(q.size+q.late)≤u)
def kpt (q:Qy) (lim:Option Int) (p:Pn):Bool:=nV q lim p.st
def qK (q:Qy) (lim:Option Int) (p:Pn):Prop:=∃ u,lim=some u∧p.st+q.size≤u
structure EnI (ks:List Int) (q:Qy) (cs:List Ct) (lim:Option Int) (tb:List Pn) (rows:List Rw) (V:List Pn):Prop where
 ofv:OfV ks cs V
 tb:tb=V.filter (kpt q lim)
 told:∀ p∈V,p.told=true→qK q lim p
 gone:∀ p∈V,kpt q lim p=false→p.told=true
 net:qn rows V
theorem enI_nil (ks:List Int) (q:Qy):EnI ks q [] none [] [] []:=⟨ofV_nil ks,rfl,by simp,by simp,netI_nil⟩
theorem updR_mem {x y:Pn} {l:List Pn}:y∈nR x l↔(y=x∧∃ p∈l,du p=du x)∨(y∈l∧du y≠du x):=by
 unfold nR;rw [List.mem_map]
 constructor
 ·rintro ⟨p,hp,e⟩
  by_cases hk:du p=du x
  ·rw [if_pos hk] at e;exact .inl ⟨e.symm,p,hp,hk⟩
  ·rw [if_neg hk] at e;subst e;exact .inr ⟨hp,hk⟩
 ·rintro (⟨e,p,hp,hk⟩ | ⟨hy,hk⟩)
  ·exact ⟨p,hp,by rw [if_pos hk,e]⟩
  ·exact ⟨y,hy,by rw [if_neg hk]⟩
theorem eU {p x:Pn} (h:du p=du x):p.st=x.st∧p.k=x.k∧p.n=x.n:=by
 unfold du at h
 simpa only [Prod.mk.injEq] using h
theorem kA {V:List Pn} (h:jD V) {p r:Pn} (hp:p∈V) (hr:r∈V) (e:du p=du r):p=r:=by
 obtain ⟨i,hi,rfl⟩:=List.mem_iff_getElem.1 hp;obtain ⟨j,hj,rfl⟩:=List.mem_iff_getElem.1 hr
 have:=ky h (List.getElem?_eq_getElem hi) (List.getElem?_eq_getElem hj) (eU e)
 subst this
 rfl
theorem mw {q:Qy} {lim:Option Int} {p x:Pn} (h:du p=du x):kpt q lim p=kpt q lim x:=by
 unfold kpt;rw [(eU h).1]
theorem oy {ks:List Int} {q:Qy} {cs:List Ct} {lim:Option Int} {tb tb':List Pn} {rows rows':List Rw} {V:List Pn} (h:EnI ks q cs lim tb rows V) (c:Ct) (hk:nV q lim c.st=true) (ha:qr ks tb rows c tb' rows') :
  ∃ V',EnI ks q (cs++[c]) lim tb' rows' V':=by
 have hRV:V.Pairwise plt:=h.ofv.rise;have hRT:jD tb:=by rw [h.tb];exact hRV.filter _
 rcases ha with ⟨j,hj,av,he,rfl,rfl⟩ | ⟨hno,⟨i,av,hi,rfl⟩,hR,rfl⟩
 ·have hpt:tb[j]∈tb:=List.getElem_mem hj;have hpV:tb[j]∈V:=by
   have:tb[j]∈V.filter (kpt q lim):=h.tb ▸ hpt;exact (List.mem_filter.1 this).1
  generalize hpe:tb[j]=p at *;obtain ⟨x,hx⟩:∃ x:Pn,x=⟨c.st,c.key.1,c.key.2,p.told,dD p.ac c.vs,av⟩:=⟨_,rfl⟩;rw [← hx];have hkx:du p=du x:=by rw [hx];unfold du;rw [he.1,he.2.1,he.2.2]
  have hset:tb.set j x=nR x tb:=set_updR hRT hj (by rw [hpe];exact hkx);have hst:x.st=c.st∧x.k=c.key.1∧x.n=c.key.2:=by rw [hx];exact ⟨rfl,rfl,rfl⟩
  have hac:=h.ofv.acc p hpV;have hkc:kpt q lim x=true:=by unfold kpt;rw [hst.1];exact hk
  refine ⟨nR x V,⟨updR_rise hRV,fun y hy=>?_,fun d hd=>?_,by have:=h.ofv.few;simp [nR];omega⟩,?_,fun y hy ht=>?_,fun y hy hg=>?_,?_⟩
  ·rcases updR_mem.1 hy with ⟨e,-⟩ | ⟨hyV,hne⟩
   ·rw [e,hst.1,hst.2.1,hst.2.2,kg,pb _ _ _ c ⟨rfl,rfl,rfl⟩];refine ⟨?_,by simp⟩;rw [gU,← he.1,← he.2.1,← he.2.2,← hac.1,hx]
   ·obtain ⟨a1,a2⟩:=h.ofv.acc y hyV;rw [kg,mZ _ _ _ c (fun e=>hne (by unfold du;rw [hst.1,hst.2.1,hst.2.2,e.1,e.2.1,e.2.2])),List.append_nil];exact ⟨a1,a2⟩
  ·rcases List.mem_append.1 hd with hd | hd
   ·obtain ⟨r,hr,e⟩:=h.ofv.all d hd
    by_cases hrk:du r=du x
    ·have:=eU hrk
     exact ⟨x,updR_mem.2 (.inl ⟨rfl,r,hr,hrk⟩),by rw [← this.1];exact e.1,by rw [← this.2.1];exact e.2.1,by rw [← this.2.2];exact e.2.2⟩
    ·exact ⟨r,updR_mem.2 (.inr ⟨hr,hrk⟩),e⟩
   ·rw [List.mem_singleton.1 hd];exact ⟨x,updR_mem.2 (.inl ⟨rfl,p,hpV,hkx⟩),hst⟩
  ·rw [hset,filter_updR (kpt q lim) (fun r hr=>mw hr),← h.tb]
  ·rcases updR_mem.1 hy with ⟨e,-⟩ | ⟨hyV,-⟩
   ·have:p.told=true:=by rw [e,hx] at ht;exact ht
    obtain ⟨u,e1,e2⟩:=h.told p hpV this;exact ⟨u,e1,by rw [e,hst.1,← he.1];exact e2⟩
   ·exact h.told y hyV ht
  ·rcases updR_mem.1 hy with ⟨e,-⟩ | ⟨hyV,-⟩
   ·rw [e,hkc] at hg;cases hg
   ·exact h.gone y hyV hg
  ·have hox:fj x=(p.st,p.k,p.n,(dD p.ac c.vs).map acV):=by rw [hx];unfold fj;rw [he.1,he.2.1,he.2.2]
   have hmem:∀ z,(∃ r∈nR x V,r.told=true∧fj r=z)↔(x.told=true∧fj x=z)∨((∃ r∈V,r.told=true∧fj r=z)∧dt z≠du x):=fun z=>by
    constructor
    ·rintro ⟨r,hr,h1,h2⟩
     rcases updR_mem.1 hr with ⟨e,-⟩ | ⟨hrV,hne⟩
     ·rw [e] at h1 h2;exact .inl ⟨h1,h2⟩
     ·exact .inr ⟨⟨r,hrV,h1,h2⟩,by rw [← h2,eh];exact hne⟩
    ·rintro (⟨h1,h2⟩ | ⟨⟨r,hr,h1,h2⟩,hne⟩)
     ·exact ⟨x,updR_mem.2 (.inl ⟨rfl,p,hpV,hkx⟩),h1,h2⟩
     ·exact ⟨r,updR_mem.2 (.inr ⟨hr,by rw [← eh,h2];exact hne⟩),h1,h2⟩
   have htx:x.told=p.told:=by rw [hx]
   have hold:∀ z,(∃ r∈V,r.told=true∧fj r=z)→dt z=du x→z=fj p:=fun z ⟨r,hr,h1,h2⟩ e=>by
    rw [← h2] at e ⊢;rw [kA hRV hr hpV (by rw [← eh,e,hkx])]
   unfold mR
   by_cases hrr:p.told=true∧p.ac.map acV≠(dD p.ac c.vs).map acV
   ·rw [if_pos hrr,← hox];refine netI_turn h.net (by rw [eh,eh,hkx]) ⟨p,hpV,hrr.1,rfl⟩ (fun z=>?_);rw [hmem z,eh,← hkx]
    constructor
    ·rintro (⟨-,e⟩ | e)
     ·exact .inl e.symm
     ·exact .inr e
    ·rintro (e | e)
     ·exact .inl ⟨by rw [htx];exact hrr.1,e.symm⟩
     ·exact .inr e
   ·rw [if_neg hrr,List.append_nil];refine lH h.net (fun z=>?_);rw [hmem z]
    by_cases htp:p.told=true
    ·have heq:p.ac.map acV=(dD p.ac c.vs).map acV:=Classical.byContradiction fun e=>hrr ⟨htp,e⟩
     have hoe:fj x=fj p:=by rw [hox,← heq];rfl
     constructor
     ·intro hz
      by_cases hzk:dt z=du x
      ·exact .inl ⟨by rw [htx];exact htp,by rw [hoe];exact (hold z hz hzk).symm⟩
      ·exact .inr ⟨hz,hzk⟩
     ·rintro (⟨-,e⟩ | ⟨hz,-⟩)
      ·exact ⟨p,hpV,htp,by rw [← hoe];exact e⟩
      ·exact hz
    ·constructor
     ·rintro ⟨r,hr,h1,h2⟩;refine .inr ⟨⟨r,hr,h1,h2⟩,fun e=>?_⟩;rw [← h2,eh] at e;rw [kA hRV hr hpV (by rw [e,hkx])] at h1;exact htp h1
     ·rintro (⟨e,-⟩ | ⟨hz,-⟩)
      ·rw [htx] at e;exact absurd e htp
      ·exact hz
 ·obtain ⟨x,hx⟩:∃ x:Pn,x=⟨c.st,c.key.1,c.key.2,false,dD (ks.map iw) c.vs,av⟩:=⟨_,rfl⟩;rw [← hx] at hR ⊢;have hst:x.st=c.st∧x.k=c.key.1∧x.n=c.key.2:=by rw [hx];exact ⟨rfl,rfl,rfl⟩
  have hkc:kpt q lim x=true:=by unfold kpt;rw [hst.1];exact hk
  have hnV:∀ p∈V,du p≠du x:=fun p hp e=>by
   have hpt:p∈tb:=by rw [h.tb];exact List.mem_filter.2 ⟨hp,by rw [mw e];exact hkc⟩
   have:=eU e
   exact hno p hpt ⟨this.1.trans hst.1,this.2.1.trans hst.2.1,this.2.2.trans hst.2.2⟩
  have hz:ofK c.st c.key.1 c.key.2 cs=[]:=by
   unfold ofK;rw [List.filter_eq_nil_iff];intro d hd;simp only [decide_eq_true_eq];intro e;obtain ⟨p,hp,e1,e2,e3⟩:=h.ofv.all d hd;exact hnV p hp (by unfold du;rw [hst.1,hst.2.1,hst.2.2,e1,e2,e3,e.1,e.2.1,e.2.2])
  have htx:x.told=false:=by rw [hx]
  refine ⟨nI x V,⟨fm x V hRV hnV,fun y hy=>?_,fun d hd=>?_,by have:=h.ofv.few;rw [mA];simp;omega⟩,?_,fun y hy ht=>?_,fun y hy hg=>?_,lH h.net (fun z=>?_)⟩
  ·rcases (cT x y V).1 hy with e | hyV
   ·rw [e,hst.1,hst.2.1,hst.2.2,kg,hz,pb _ _ _ c ⟨rfl,rfl,rfl⟩,hx];exact ⟨rfl,by simp⟩
   ·obtain ⟨a1,a2⟩:=h.ofv.acc y hyV;have hne:=hnV y hyV;rw [kg,mZ _ _ _ c (fun e=>hne (by unfold du;rw [hst.1,hst.2.1,hst.2.2,e.1,e.2.1,e.2.2])),List.append_nil];exact ⟨a1,a2⟩
  ·rcases List.mem_append.1 hd with hd | hd
   ·obtain ⟨r,hr,e⟩:=h.ofv.all d hd;exact ⟨r,(cT x r V).2 (.inr hr),e⟩
   ·rw [List.mem_singleton.1 hd];exact ⟨x,(cT x x V).2 (.inl rfl),hst⟩
  ·rw [ins_is hR,filter_insR hRV hnV (kpt q lim) hkc,← h.tb]
  ·rcases (cT x y V).1 hy with e | hyV
   ·rw [e,htx] at ht;cases ht
   ·exact h.told y hyV ht
  ·rcases (cT x y V).1 hy with e | hyV
   ·rw [e,hkc] at hg;cases hg
   ·exact h.gone y hyV hg
  ·constructor
   ·rintro ⟨r,hr,h1,h2⟩;exact ⟨r,(cT x r V).2 (.inr hr),h1,h2⟩
   ·rintro ⟨r,hr,h1,h2⟩
    rcases (cT x r V).1 hr with e | hrV
    ·rw [e,htx] at h1;cases h1
    ·exact ⟨r,hrV,h1,h2⟩
theorem bS (size u:Int) (p:Pn):du (cP size u p)=du p∧fj (cP size u p)=fj p∧(cP size u p).st=p.st∧(cP size u p).ac=p.ac:=by
 unfold cP
 split <;> exact ⟨rfl,rfl,rfl,rfl⟩
theorem dV (size u:Int) (p:Pn):(cP size u p).told=(p.told || decide (p.st+size≤u)):=by
 unfold cP dz;cases h:p.told <;> by_cases h2:p.st+size≤u <;> simp [h,h2]
def dE (q:Qy) (u:Int) (tb:List Pn):List Rw:=(tb.filter (dz q.size u)).map fun p=>⟨false,fj p⟩
def m5 (q:Qy) (u:Int) (tb:List Pn):List Pn:=(tb.map (cP q.size u)).filter (stays (q.size+q.late) u)
theorem enI_tell {ks:List Int} {q:Qy} {cs:List Ct} {lim:Option Int} {tb:List Pn} {rows:List Rw} {V:List Pn} (h:EnI ks q cs lim tb rows V) (u:Int) (hle:∀ u0,lim=some u0→u0≤u) (hl0:0≤q.late) :
  EnI ks q cs (some u) (m5 q u tb) (rows++dE q u tb) (V.map (cP q.size u))∧∀ p∈V.map (cP q.size u),qK q (some u) p→p.told=true:=by
 have hRV:V.Pairwise plt:=h.ofv.rise;have hdue:∀ p∈V,dz q.size u p=true→kpt q lim p=true:=fun p hp hd=>by
  cases hk:kpt q lim p with
  | true=>rfl
  | false =>
   have:=h.gone p hp hk
   unfold dz at hd;rw [this] at hd;cases hd
 have hdt:tb.filter (dz q.size u)=V.filter (dz q.size u):=by
  rw [h.tb,List.filter_filter];refine List.filter_congr fun p hp=>?_
  cases hd:dz q.size u p with
  | false=>simp
  | true=>simp [hdue p hp hd]
 refine ⟨⟨⟨?_,fun y hy=>?_,fun d hd=>?_,by simpa using h.ofv.few⟩,?_,fun y hy ht=>?_,fun y hy hg=>?_,?_⟩,fun y hy he=>?_⟩
 ·refine List.pairwise_map.2 (hRV.imp fun {a b} hab=>?_);have ea:=eU (bS q.size u a).1;have eb:=eU (bS q.size u b).1;rw [ea.1,ea.2.1,ea.2.2,eb.1,eb.2.1,eb.2.2];exact hab
 ·obtain ⟨p,hp,rfl⟩:=List.mem_map.1 hy;have e:=eU (bS q.size u p).1;rw [(bS q.size u p).2.2.2,e.1,e.2.1,e.2.2];exact h.ofv.acc p hp
 ·obtain ⟨p,hp,e⟩:=h.ofv.all d hd;have e1:=eU (bS q.size u p).1;exact ⟨_,List.mem_map_of_mem hp,by rw [e1.1,e1.2.1,e1.2.2];exact e⟩
 ·unfold m5;rw [h.tb,List.filter_map,List.filter_map,List.filter_filter]
  congr 1
  refine List.filter_congr fun p hp=>?_
  simp only [Function.comp];have e1:stays (q.size+q.late) u (cP q.size u p)=kpt q (some u) p:=by
   unfold stays kpt nV;rw [(bS q.size u p).2.2.1]
  have e2:kpt q (some u) (cP q.size u p)=kpt q (some u) p:=mw (bS q.size u p).1;rw [e1,e2];cases hk:kpt q (some u) p with
  | false=>simp
  | true =>
   have:kpt q lim p=true:=by
    cases hl:lim with
    | none=>rfl
    | some u0 =>
     have:=hle u0 hl
     unfold kpt nV at hk ⊢;simp only [Bool.not_eq_true',decide_eq_false_iff_not] at hk ⊢;omega
   rw [this]
   rfl
 ·obtain ⟨p,hp,rfl⟩:=List.mem_map.1 hy;rw [dV] at ht;refine ⟨u,rfl,?_⟩;rw [(bS q.size u p).2.2.1]
  rcases Bool.or_eq_true_iff.1 ht with ht | ht
  ·obtain ⟨u0,e1,e2⟩:=h.told p hp ht
   have:=hle u0 e1
   omega
  ·exact of_decide_eq_true ht
 ·obtain ⟨p,hp,rfl⟩:=List.mem_map.1 hy;rw [dV];unfold kpt nV at hg;rw [(bS q.size u p).2.2.1] at hg;simp only [Bool.not_eq_false',decide_eq_true_eq] at hg;rw [decide_eq_true (by omega)]
  simp
 ·obtain ⟨out,n1,n2,n3⟩:=h.net;have hr:dE q u tb=((V.filter (dz q.size u)).map fj).map (Rw.mk false):=by
   unfold dE;rw [hdt,List.map_map]
   rfl
  have hk2:(((V.filter (dz q.size u)).map fj).map dt).Nodup:=by
   rw [List.map_map]
   show List.Pairwise _ _
   refine List.pairwise_map.2 ((hRV.filter _).imp fun {a b} hab=>?_);intro e
   have:=eU (show du a=du b from e)
   unfold plt lexlt at hab;omega
  have hk3:∀ x∈(V.filter (dz q.size u)).map fj,dt x ∉ out.map dt:=fun x hx hm=>by
   obtain ⟨p,hp,rfl⟩:=List.mem_map.1 hx;obtain ⟨hpV,hpd⟩:=List.mem_filter.1 hp;obtain ⟨y,hy,e⟩:=List.mem_map.1 hm;obtain ⟨r,hr,h1,h2⟩:=(n3 y).1 hy;rw [← h2] at e
   have:=kA hRV hr hpV e
   rw [this] at h1;unfold dz at hpd;rw [h1] at hpd;cases hpd
  refine ⟨out++(V.filter (dz q.size u)).map fj,?_,?_,fun x=>?_⟩
  ·rw [netL_app,n1,hr];exact netL_say _ out n2 hk2 hk3
  ·rw [List.map_append];refine List.nodup_append.2 ⟨n2,hk2,fun a ha b hb e=>?_⟩;obtain ⟨y,hy,e1⟩:=List.mem_map.1 hb;exact hk3 y hy (by rw [e1,← e];exact ha)
  ·rw [List.mem_append,n3 x]
   constructor
   ·rintro (⟨p,hp,h1,h2⟩ | hx)
    ·exact ⟨_,List.mem_map_of_mem hp,by rw [dV,h1];rfl,by rw [(bS q.size u p).2.1];exact h2⟩
    ·obtain ⟨p,hp,rfl⟩:=List.mem_map.1 hx;obtain ⟨hpV,hpd⟩:=List.mem_filter.1 hp;refine ⟨_,List.mem_map_of_mem hpV,?_,(bS q.size u p).2.1⟩;unfold dz at hpd;rw [dV,(Bool.and_eq_true_iff.1 hpd).2]
     simp
   ·rintro ⟨y,hy,h1,h2⟩;obtain ⟨p,hp,rfl⟩:=List.mem_map.1 hy;rw [(bS q.size u p).2.1] at h2
    by_cases ht:p.told=true
    ·exact .inl ⟨p,hp,ht,h2⟩
    ·refine .inr (List.mem_map.2 ⟨p,List.mem_filter.2 ⟨hp,?_⟩,h2⟩);rw [dV] at h1;unfold dz;cases hpt:p.told with
     | true=>exact absurd hpt ht
     | false =>
      rw [hpt] at h1
      simpa using h1
 ·obtain ⟨p,hp,rfl⟩:=List.mem_map.1 hy;obtain ⟨u0,e1,e2⟩:=he;cases e1;rw [(bS q.size u p).2.2.1] at e2;rw [dV,decide_eq_true e2]
  simp
theorem chkAs_zero:∀ {l:List AgQ},chkAs l=0→∀ a∈l,chkA a=0
 | [],_,a,h=>by simp at h
 | b :: l,h,a,ha=>by
  unfold chkAs at h
  by_cases hb:chkA b=0
  ·rw [if_neg (by simp [hb])] at h
   rcases List.mem_cons.1 ha with rfl | ha
   ·exact hb
   ·exact chkAs_zero h a ha
  ·rw [if_pos hb] at h;exact absurd h hb
theorem hH {l:List Nd} (h:(cM l).2=0):kW l=0:=by
 by_cases h9:kW l=0
 ·exact h9
 ·exfalso
  have e:(cM l).2=kW l:=by unfold cM;rw [if_pos h9]
  rw [e] at h;exact h9 h
structure OkQ (q:Qy):Prop where
 n0:0 < q.aggs.length
 n4:q.aggs.length≤4
 ag:∀ a∈q.aggs,chkA a=0
 wh:0 < q.wh.length→kW q.wh=0
 by_:0 < q.bys.length→kW q.bys=0
 s1:1≤q.size∧q.size≤1000
 s2:1≤q.slide∧q.slide≤1000
 s3:0≤q.delay∧q.delay≤1000
 s4:0≤q.late∧q.late≤1000
theorem js {q:Qy} (h:chkQ q=0):OkQ q:=by
 unfold chkQ at h
 by_cases h1:q.aggs.length=0∨4 < q.aggs.length
 ·rw [if_pos h1] at h;exact absurd h (by decide)
 rw [if_neg h1] at h;have h2:chkAs q.aggs=0:=Classical.byContradiction fun h2=>by rw [if_pos h2] at h;exact h2 h
 rw [if_neg (by simp [h2])] at h;have h3:chkW q.wh=0:=Classical.byContradiction fun h3=>by rw [if_pos h3] at h;exact h3 h
 rw [if_neg (by simp [h3])] at h;have h4:chkB q.bys=0:=Classical.byContradiction fun h4=>by rw [if_pos h4] at h;exact h4 h
 rw [if_neg (by simp [h4])] at h;unfold p7 at h
 by_cases h5:q.size < 1∨1000 < q.size∨q.slide < 1∨1000 < q.slide∨q.delay < 0∨1000 < q.delay∨q.late < 0∨1000 < q.late
 ·rw [if_pos h5] at h;exact absurd h (by decide)
 refine ⟨by omega,by omega,chkAs_zero h2,fun hp=>?_,fun hp=>?_,by omega,by omega,by omega,by omega⟩
 ·unfold chkW at h3;rw [if_neg (by omega)] at h3
  by_cases h6:(cM q.wh).2=0
  ·exact hH h6
  ·rw [if_pos h6] at h3;exact absurd h3 h6
 ·unfold chkB at h4;rw [if_neg (by omega)] at h4;exact hH h4
theorem kT {l:List Nd} (h:kW l=0):∀ n∈l,okN n=0:=fun n hn=>by
 obtain ⟨bs,hg,-⟩:=good_of_chk h;obtain ⟨i,hi,rfl⟩:=List.mem_iff_getElem.1 hn;exact (hg.2 i _ (List.getElem?_eq_getElem hi)).1
theorem qyN_of {q:Qy} (h:chkQ q=0):QyN q:=by
 have hq:=js h;refine ⟨fun n hn=>?_,fun n hn=>?_,fun a ha n hn=>?_⟩
 ·exact kT (hq.wh (List.length_pos_of_mem hn)) n hn
 ·exact kT (hq.by_ (List.length_pos_of_mem hn)) n hn
 ·have h1:=hq.ag a ha;unfold chkA at h1
  by_cases h2:a.kind < 1∨5 < a.kind
  ·rw [if_pos h2] at h1;exact absurd h1 (by decide)
  ·rw [if_neg h2] at h1
   by_cases h3:a.kind=1
   ·rw [if_pos h3,if_pos (List.length_pos_of_mem hn)] at h1;exact absurd h1 (by decide)
   ·rw [if_neg h3] at h1
    by_cases h4:(cM a.of).2=0
    ·exact kT (hH h4) n hn
    ·rw [if_pos h4] at h1;exact absurd h1 h4
theorem qyK_of {q:Qy} (h:chkQ q=0):∀ a∈q.aggs,1≤a.kind∧a.kind≤5:=fun a ha=>by
 have h1:=(js h).ag a ha;unfold chkA at h1
 by_cases h2:a.kind < 1∨5 < a.kind
 ·rw [if_pos h2] at h1;exact absurd h1 (by decide)
 ·omega
theorem oO {q:Qy} (h:chkQ q=0):QyS q:=by
 have hq:=js h;have h5:p7 q=0:=by
  unfold chkQ at h
  by_cases h1:q.aggs.length=0∨4 < q.aggs.length
  ·rw [if_pos h1] at h;exact absurd h (by decide)
  rw [if_neg h1] at h;have h2:chkAs q.aggs=0:=Classical.byContradiction fun h2=>by rw [if_pos h2] at h;exact h2 h
  rw [if_neg (by simp [h2])] at h;have h3:chkW q.wh=0:=Classical.byContradiction fun h3=>by rw [if_pos h3] at h;exact h3 h
  rw [if_neg (by simp [h3])] at h;have h4:chkB q.bys=0:=Classical.byContradiction fun h4=>by rw [if_pos h4] at h;exact h4 h
  rw [if_neg (by simp [h4])] at h;exact h
 unfold p7 at h5;rw [if_neg (by have:=hq.s1;have:=hq.s2;have:=hq.s3;have:=hq.s4;omega)] at h5;have h6:¬ (q.size < q.slide∨4 * q.slide < q.size):=fun h6=>by rw [if_pos h6] at h5;exact absurd h5 (by decide)
 have:=hq.s1
 have:=hq.s2
 have:=hq.s3
 have:=hq.s4
 constructor <;> omega
theorem iQ {q:Qy} (hS:QyS q):∀ (l:List Ev) (g:Int) (k:Bool),(dM q g k l).length≤4 * l.length∧eR q g k l≤4 * l.length
 | [],g,k=>by simp [dM,eR]
 | x :: l,g,k=>by
  unfold dM eR
  by_cases h:evC x≠0
  ·rw [if_pos h,if_pos h]
   have:=iQ hS l g k
   simp only [List.length_cons];omega
  ·rw [if_neg h,if_neg h];have h0:evC x=0:=by omega
   obtain ⟨-,t0,t1⟩:=lu h0;have h1:=lW (q:=q) (x:=x) ⟨t0,t1,hS.s1,hS.s2,hS.s3,hS.s4⟩ (g - q.delay) k;have h2:=iQ hS l (max g x.t) true;simp only [List.length_cons,List.length_append];omega
structure PtsR (w:World) (pv:Value) (vs:List Value) (M:List (List Ev)):Prop where
 row:bT w pv 1 M.length vs
 len:vs.length=M.length
 each:∀ (i:Nat) (v:Value) (l:List Ev),vs[i]?=some v→M[i]?=some l→bT w v 7 l.length (rowOf gF l)
theorem fK {w w':World} {pv:Value} {vs:List Value} {M:List (List Ev)} (h:PtsR w pv vs M) (hb:Below w.heap.size w w'):PtsR w' pv vs M:=⟨aA h.row hb,h.len,fun i v l h1 h2=>aA (h.each i v l h1 h2) hb⟩
theorem eQ (q:Qy) (l:List Ev) (M:List (List Ev)):nN q (l :: M)=dM q 0 false l++nN q M:=by simp [nN]
def ix (M:List (List Ev)):Nat:=(M.map List.length).sum
theorem dG (l:List Ev) (M:List (List Ev)):ix (l :: M)=l.length+ix M:=by simp [ix]
theorem evsN_40:∀ (M:List (List Ev)),(∀ l∈M,l.length≤40)→ix M≤40 * M.length
 | [],_=>by simp [ix]
 | l :: M,h=>by
  rw [dG,List.length_cons];have h1:=h l (by simp);have h2:=evsN_40 M (fun x hx=>h x (by simp [hx]));omega
theorem eK (q:Qy) (l:List Ev) (M:List (List Ev)):pA q (l :: M)=eR q 0 false l+pA q M:=by simp [pA]
def endG:Int→Bool→List Ev→Int×Bool
 | g,k,[]=>(g,k)
 | g,k,x :: l=>if evC x≠0 then endG g k l else endG (max g x.t) true l
theorem ia (q:Qy) (g:Int) (k:Bool) (x:Ev) (l:List Ev):dM q g k (x :: l)=if evC x≠0 then dM q g k l else takeC q x (g - q.delay) k++dM q (max g x.t) true l:=rfl
theorem gj (g:Int) (k:Bool) (x:Ev) (l:List Ev):endG g k (x :: l)=if evC x≠0 then endG g k l else endG (max g x.t) true l:=rfl
theorem iP (q:Qy) (m:List Ev):∀ (l:List Ev) (g:Int) (k:Bool),dM q g k (l++m)=dM q g k l++dM q (endG g k l).1 (endG g k l).2 m
 | [],g,k=>by simp [dM,endG]
 | x :: l,g,k=>by
  rw [List.cons_append,ia,ia,gj]
  by_cases h:evC x≠0
  ·rw [if_pos h,if_pos h,if_pos h];exact iP q m l g k
  ·rw [if_neg h,if_neg h,if_neg h,List.append_assoc,iP q m l (max g x.t) true]
def ey (a:Int) (l:List Ev):Int:=l.foldl (fun b x=>max b x.t) a
theorem endG_known:∀ (l:List Ev) (g:Int),(∀ x∈l,evC x=0)→(endG g true l).2=true
 | [],g,_=>rfl
 | x :: l,g,hx=>by
  have h0:¬ (evC x≠0):=by have:=hx x (by simp);omega
  unfold endG;rw [if_neg h0];exact endG_known l _ (fun y hy=>hx y (by simp [hy]))
theorem endG_some {l:List Ev} {g:Int} {k:Bool} (hx:∀ x∈l,evC x=0) (h:l≠[]):(endG g k l).2=true:=by
 cases l with
 | nil=>exact absurd rfl h
 | cons x l =>
  have h0:¬ (evC x≠0):=by have:=hx x (by simp);omega
  unfold endG;rw [if_neg h0];exact endG_known l _ (fun y hy=>hx y (by simp [hy]))
theorem farL_bound:∀ (l:List Ev) (a:Int),(∀ x∈l,evC x=0)→a≤ey a l∧ey a l≤max a 9999
 | [],a,_=>by simp [ey];omega
 | x :: l,a,hx=>by
  have h0:=hx x (by simp);obtain ⟨-,t0,t1⟩:=lu h0
  have:=farL_bound l (max a x.t) (fun y hy=>hx y (by simp [hy]))
  show a≤ey (max a x.t) l∧ey (max a x.t) l≤_
  omega
theorem farL_some {l:List Ev} (h:0≤ey (-1) l):l≠[]:=by
 intro e;subst e
 simp [ey] at h
def uptoB (b far:Int) (x:Int×Int×Int×List V2):Bool:=decide (x.1+b≤far)
theorem kH {q:Qy} (hS:QyS q):∀ (l:List Ev) (g:Int) (k:Bool),∀ c∈dM q g k l,-1000≤c.st∧c.st≤9999
 | [],g,k,c,hc=>by simp [dM] at hc
 | x :: l,g,k,c,hc=>by
  unfold dM at hc
  by_cases h:evC x≠0
  ·rw [if_pos h] at hc;exact kH hS l g k c hc
  ·rw [if_neg h] at hc;have h0:evC x=0:=by omega
   obtain ⟨-,t0,t1⟩:=lu h0
   rcases List.mem_append.1 hc with hc | hc
   ·unfold takeC at hc
    split at hc
    ·unfold kJ at hc;obtain ⟨st,h1,rfl⟩:=List.mem_map.1 hc;exact oN ⟨t0,t1,hS.s1,hS.s2,hS.s3,hS.s4⟩ st (List.mem_filter.1 h1).1
    ·simp at hc
   ·exact kH hS l _ true c hc
theorem allC_in {q:Qy} (hS:QyS q) {M:List (List Ev)}:∀ c∈nN q M,-1000≤c.st∧c.st≤9999:=fun c hc=>by
 obtain ⟨l,-,h⟩:=List.mem_flatMap.1 hc;exact kH hS l 0 false c h
inductive AddsE (ks:List Int) (tb0:List Pn) (rows0:List Rw):List Ct→List Pn→List Rw→Prop
 | nil:AddsE ks tb0 rows0 [] tb0 rows0
 | snoc {cs:List Ct} {tb tb':List Pn} {rows rows':List Rw} {c:Ct} (h:AddsE ks tb0 rows0 cs tb rows) (a:qr ks tb rows c tb' rows'):AddsE ks tb0 rows0 (cs++[c]) tb' rows'
theorem enI_adds {ks:List Int} {q:Qy} {cs0:List Ct} {lim:Option Int} {tb0:List Pn} {rows0:List Rw} {V:List Pn} (h:EnI ks q cs0 lim tb0 rows0 V) {ds:List Ct} {tb:List Pn} {rows:List Rw} (ha:AddsE ks tb0 rows0 ds tb rows) :
  (∀ d∈ds,nV q lim d.st=true)→∃ V',EnI ks q (cs0++ds) lim tb rows V':=by
 induction ha with
 | nil=>intro _;exact ⟨V,by rw [List.append_nil];exact h⟩
 | snoc _ a ih =>
  intro hd;obtain ⟨V1,h1⟩:=ih (fun d hd1=>hd d (by simp [hd1]));obtain ⟨V2,h2⟩:=oy h1 _ (hd _ (by simp)) a;exact ⟨V2,by rw [← List.append_assoc];exact h2⟩
theorem endG_eq:∀ (l:List Ev) (g:Int) (k:Bool),(∀ x∈l,evC x=0)→(endG g k l).1=ey g l
 | [],g,k,_=>rfl
 | x :: l,g,k,hx=>by
  have h0:¬ (evC x≠0):=by have:=hx x (by simp);omega
  rw [gj,if_neg h0];exact endG_eq l _ true (fun y hy=>hx y (by simp [hy]))
theorem endG_far1 {l:List Ev} (hx:∀ x∈l,evC x=0) (h:l≠[]):(endG 0 false l).1=ey (-1) l:=by
 cases l with
 | nil=>exact absurd rfl h
 | cons x l =>
  have h0:¬ (evC x≠0):=by have:=hx x (by simp);omega
  obtain ⟨-,t0,-⟩:=lu (hx x (by simp));rw [gj,if_neg h0,endG_eq l _ true (fun y hy=>hx y (by simp [hy]))]
  show ey (max 0 x.t) l=ey (max (-1) x.t) l
  rw [show max 0 x.t=max (-1) x.t by omega]
theorem farL_nn {l:List Ev} (hx:∀ x∈l,evC x=0):0≤ey (-1) l↔l≠[]:=by
 constructor
 ·exact farL_some
 ·intro h;cases l with
  | nil=>exact absurd rfl h
  | cons x l =>
   obtain ⟨-,t0,-⟩:=lu (hx x (by simp))
   have:=(farL_bound l (max (-1) x.t) (fun y hy=>hx y (by simp [hy]))).1
   show 0≤ey (max (-1) x.t) l
   omega
theorem takeC_unk (q:Qy) (x:Ev) (u u':Int):takeC q x u false=takeC q x u' false∧takeN q x u false=takeN q x u' false:=by
 have e:∀ a b:Int,fx q a false=fx q b false:=fun a b=>funext fun st=>rfl
 unfold takeC takeN kJ gN;rw [e u u'];exact ⟨rfl,rfl⟩
def bF (q:Qy) (g:Int):Int:=if g < 0 then 0 else g - q.delay
theorem part_more {q:Qy} {l:List Ev} (hx:∀ x∈l,evC x=0) {x:Ev} (hx0:evC x=0) :
  dM q 0 false (l++[x])=dM q 0 false l++takeC q x (bF q (ey (-1) l)) (decide (0≤ey (-1) l))∧eR q 0 false (l++[x])=eR q 0 false l+takeN q x (bF q (ey (-1) l)) (decide (0≤ey (-1) l)):=by
 have h0:¬ (evC x≠0):=by omega
 have one:∀ (g:Int) (k:Bool),dM q g k [x]=takeC q x (g - q.delay) k∧eR q g k [x]=takeN q x (g - q.delay) k:=fun g k=>by
  constructor
  ·rw [ia,if_neg h0]
   simp [dM]
  ·show (if evC x≠0 then _ else _)=_
   rw [if_neg h0]
   simp [eR]
 have napp:∀ (l:List Ev) (g:Int) (k:Bool),eR q g k (l++[x])=eR q g k l+eR q (endG g k l).1 (endG g k l).2 [x]:=by
  intro l
  induction l with
  | nil=>intro g k;simp [eR,endG]
  | cons y l ih =>
   intro g k;rw [List.cons_append,gj]
   show (if evC y≠0 then eR q g k (l++[x]) else takeN q y (g - q.delay) k+eR q (max g y.t) true (l++[x]))=(if evC y≠0 then eR q g k l else takeN q y (g - q.delay) k+eR q (max g y.t) true l)+_
   by_cases h:evC y≠0
   ·rw [if_pos h,if_pos h,if_pos h];exact ih g k
   ·rw [if_neg h,if_neg h,if_neg h,ih];omega
 have key:dM q (endG 0 false l).1 (endG 0 false l).2 [x]=takeC q x (bF q (ey (-1) l)) (decide (0≤ey (-1) l))∧eR q (endG 0 false l).1 (endG 0 false l).2 [x]=takeN q x (bF q (ey (-1) l)) (decide (0≤ey (-1) l)):=by
  by_cases hl:l=[]
  ·subst hl;have e:decide (0≤ey (-1) ([]:List Ev))=false:=by decide
   rw [e,(one _ _).1,(one _ _).2];exact takeC_unk q x _ _
  ·have hn:=(farL_nn hx).2 hl;have e:bF q (ey (-1) l)=ey (-1) l - q.delay:=by unfold bF;rw [if_neg (by omega)]
   rw [decide_eq_true hn,e,endG_some hx hl,endG_far1 hx hl];exact one _ _
 rw [iP,key.1,napp,key.2];exact ⟨rfl,rfl⟩
theorem iN {q:Qy} {x:Ev} (hx0:evC x=0):∀ (M:List (List Ev)) (p:Nat) (l:List Ev),M[p]?=some l→(∀ y∈l,evC y=0) →
  (nN q (M.set p (l++[x]))).Perm (nN q M++takeC q x (bF q (ey (-1) l)) (decide (0≤ey (-1) l)))∧pA q (M.set p (l++[x]))=pA q M+takeN q x (bF q (ey (-1) l)) (decide (0≤ey (-1) l))
 | [],p,l,h,_=>by simp at h
 | m :: M,0,l,h,hx=>by
  simp only [List.getElem?_cons_zero,Option.some.injEq] at h;subst h;obtain ⟨e1,e2⟩:=part_more hx hx0 (q:=q);rw [List.set_cons_zero,eQ,eQ,eK,eK,e1,e2];refine ⟨?_,by omega⟩;rw [List.append_assoc,List.append_assoc];exact List.perm_append_comm.append_left _
 | m :: M,p+1,l,h,hx=>by
  simp only [List.getElem?_cons_succ] at h;obtain ⟨e1,e2⟩:=iN hx0 M p l h hx (q:=q);rw [List.set_cons_succ,eQ,eQ,eK,eK,e2];refine ⟨?_,by omega⟩;rw [List.append_assoc];exact e1.append_left _
def gg (r:Rw×Value):List Value:=[.bool r.1.gone,.int .i64 r.1.o.1,.int .i64 r.1.o.2.1,.int .i64 r.1.o.2.2.1,r.2]
def Apt (eb:Nat) (rv v:Value):Prop:=∀ k,(k=eb∨rv.ownBlock=some k)→v.ownBlock≠some k
structure EnM (w0:World) (eb B:Nat) (q:Qy) (rdv ckv ltv va vw vb:Value) (tb:List Pn) (rs:List (Rw×Value)) (tv rv:Value) (w:World):Prop where
 be:BlkAt w eb [rdv,ckv,tv,ltv,rv,va,vw,vb,.int .i64 q.size,.int .i64 q.slide,.int .i64 q.delay,.int .i64 q.late]
 tt:TblR w tv tb
 ta:Apt eb rv tv∧∀ p∈tb,Apt eb rv p.av
 ro:w.ownsRow B 80 5 rv rs.length (rowOf gg rs)
 rn:∀ r∈rs,gi w r.2 2 r.1.o.2.2.2.length (cB r.1.o.2.2.2)∧Apt eb rv r.2
 re:rv.ownBlock≠some eb
 bb:B≤w.heap.size
 old:KeptB w0 w (fun k=>k=eb∨rdv.ownBlock=some k)
 fa:bE B tv∧∀ p∈tb,bE B p.av
 fr:∀ r∈rs,bE B r.2
theorem bW {w0 w w':World} {eb B:Nat} {q:Qy} {rdv ckv ltv va vw vb:Value} {tb:List Pn} {rs:List (Rw×Value)} {tv rv:Value} (h:EnM w0 eb B q rdv ckv ltv va vw vb tb rs tv rv w) (hb:Below w.heap.size w w'):EnM w0 eb B q rdv ckv ltv va vw vb tb rs tv rv w' :=
 ⟨ai h.be hb h.be.lt,d7 h.tt hb,h.ta,aC h.ro hb (Nat.le_refl _),fun r hr=>⟨bJ (h.rn r hr).1 hb,(h.rn r hr).2⟩,h.re,Nat.le_trans h.bb hb.size,af h.old (ae (hb.mono (Nat.le_refl _))),h.fa,h.fr⟩
theorem eO {a b c:World} {bad bad':Nat→Prop} (h:KeptB a b bad) (K:KeptB b c bad') (h9:∀ k,k < a.heap.size→bad' k→bad k):KeptB a c bad :=
 ⟨h.b0.trans K.b0,fun i hi hn=>(K.block i (Nat.lt_of_lt_of_le hi h.b0.size) (fun hb=>hn (h9 i hi hb))).trans (h.block i hi hn)⟩
structure QyK (eb:Nat) (rdv va vw vb:Value) (ps:List (AgQ×Value)):Prop where
 ka:∀ g off m c,va=.slice (some ⟨g,off,none⟩) m c→¬ (g=eb∨rdv.ownBlock=some g)
 kw:∀ g off m c,vw=.slice (some ⟨g,off,none⟩) m c→¬ (g=eb∨rdv.ownBlock=some g)
 kb:∀ g off m c,vb=.slice (some ⟨g,off,none⟩) m c→¬ (g=eb∨rdv.ownBlock=some g)
 kp:∀ p∈ps,∀ g off m c,p.2=.slice (some ⟨g,off,none⟩) m c→¬ (g=eb∨rdv.ownBlock=some g)
theorem ke {w w':World} {eb:Nat} {rdv va vw vb:Value} {q:Qy} {ps:List (AgQ×Value)} (h:QyG w va vw vb q ps) (K:KeptB w w' (fun k=>k=eb∨rdv.ownBlock=some k)) (a:QyK eb rdv va vw vb ps):QyG w' va vw vb q ps :=
 ⟨⟨cf h.ag.row K a.ka,fun p hp=>⟨cf (h.ag.nds p hp).1 K (a.kp p hp),(h.ag.nds p hp).2⟩⟩,h.qa,cf h.wh K a.kw,cf h.by_ K a.kb,h.lw,h.lb⟩
theorem jl {eb:Nat} {w:World} {rv rv' v:Value} (h:Apt eb rv v) (hl:∀ k,v.ownBlock=some k→k < w.heap.size) (hrv:rv'.ownBlock=rv.ownBlock∨∃ k,rv'.ownBlock=some k∧w.heap.size≤k):Apt eb rv' v:=fun k hk e=>by
 rcases hk with hk | hk
 ·exact h k (.inl hk) e
 ·rcases hrv with e9 | ⟨k9,e9,h9⟩
  ·exact h k (.inr (by rw [← e9];exact hk)) e
  ·rw [e9] at hk;cases hk
   have:=hl k e
   omega
theorem enM_next {w0 w w':World} {eb B:Nat} {q:Qy} {rdv ckv ltv va vw vb:Value} {tb tb':List Pn} {rs ns:List (Rw×Value)} {tv rv tv' rv':Value} (h:EnM w0 eb B q rdv ckv ltv va vw vb tb rs tv rv w) (h1:w0.heap.size≤B)
  (K:KeptB w w' (fun k=>k=eb∨rv.ownBlock=some k)) (hbe:BlkAt w' eb [rdv,ckv,tv',ltv,rv',va,vw,vb,.int .i64 q.size,.int .i64 q.slide,.int .i64 q.delay,.int .i64 q.late]) (hT:TblR w' tv' tb') (hf:bE w.heap.size tv')
  (ha:∀ p∈tb',p∈tb∨bE w.heap.size p.av) (hro:w'.ownsRow B 80 5 rv' (rs++ns).length (rowOf gg (rs++ns))) (hrv:rv'.ownBlock=rv.ownBlock∨∃ k,rv'.ownBlock=some k∧w.heap.size≤k)
  (hap:∀ k,rv'.ownBlock=some k→w.heap.size≤k→tv'.ownBlock≠some k∧∀ p∈tb',p.av.ownBlock≠some k) (hns:∀ r∈ns,gi w' r.2 2 r.1.o.2.2.2.length (cB r.1.o.2.2.2)∧bE w.heap.size r.2∧∀ k,rv'.ownBlock=some k→w.heap.size≤k→r.2.ownBlock≠some k) :
  EnM w0 eb B q rdv ckv ltv va vw vb tb' (rs++ns) tv' rv' w':=by
 have hlt:=h.be.lt;have hrl:=aJ h.ro
 -- what is new lies apart
 have new:∀ v:Value,bE w.heap.size v→(∀ k,rv'.ownBlock=some k→w.heap.size≤k→v.ownBlock≠some k)→Apt eb rv' v:=fun v hv hn k hk e=>by
  have h9:=hv k e
  rcases hk with hk | hk
  ·omega
  ·exact hn k hk h9 e
 refine ⟨hbe,hT,⟨new _ hf (fun k hk h9=>(hap k hk h9).1),fun p hp=>?_⟩,hro,fun r hr=>?_,?_,Nat.le_trans h.bb K.b0.size,eO h.old K (fun k hk hb=>?_),⟨aK hf h.bb,fun p hp=>(ha p hp).elim (h.fa.2 p) (fun hn=>aK hn h.bb)⟩,fun r hr=>(List.mem_append.1 hr).elim (h.fr r) (fun hr=>aK (hns r hr).2.1 h.bb)⟩
 ·rcases ha p hp with hp0 | hp0
  ·exact jl (h.ta.2 p hp0) (fun k hk=>dm (h.tt.acc p hp0) hk) hrv
  ·exact new _ hp0 (fun k hk h9=>(hap k hk h9).2 p hp)
 ·rcases List.mem_append.1 hr with hr | hr
  ·obtain ⟨r1,r2⟩:=h.rn r hr;exact ⟨aZ r1 K (fun k hk e=>r2 k e hk),jl r2 (fun k hk=>dm r1 hk) hrv⟩
  ·obtain ⟨r1,r2,r3⟩:=hns r hr;exact ⟨r1,new _ r2 r3⟩
 ·rcases hrv with e | ⟨k,e,hk⟩
  ·rw [e];exact h.re
  ·rw [e];intro e9;cases e9;omega
 ·rcases hb with e | e
  ·exact .inl e
  ·have:=(hrl k e).1;omega
theorem oQ {ks:List Int} {q:Qy} {cs:List Ct} {lim:Option Int} {tb:List Pn} {rows:List Rw} {V:List Pn} (h:EnI ks q cs lim tb rows V) (hl:cs.length≤490) (hv:∀ d∈cs,d.vs.length=ks.length) (hk:∀ x∈ks,1≤x∧x≤5):TbOk ks tb:=by
 have hsub:∀ p∈tb,p∈V:=fun p hp=>by rw [h.tb] at hp;exact (List.mem_filter.1 hp).1
 refine ⟨?_,?_,fun p hp=>?_⟩
 ·rw [h.tb]
  have:=List.length_filter_le (kpt q lim) V
  have:=h.ofv.few
  omega
 ·rw [h.tb];exact List.Pairwise.filter _ h.ofv.rise
 ·obtain ⟨a1,-⟩:=h.ofv.acc p (hsub p hp);rw [a1];refine ⟨accOf_len ks _ (fun d hd=>hv d (List.mem_filter.1 hd).1),fun a ha=>?_⟩;have h8:=accOf_ok ks hk _ a ha
  have:=ofK_len p.st p.k p.n cs
  exact ⟨h8.1,h8.2.1,h8.2.2.1,by omega⟩
theorem lA {B:Nat} {ks:List Int} {tb tb':List Pn} {c:Ct} {wp:Pn} {rows:List Rw} (h:nX B ks tb c tb' wp) (hs:wp.told=false∨wp.ac.map acV=(dD wp.ac c.vs).map acV):qr ks tb rows c tb' rows:=by
 rcases h with ⟨j,hj,av,h1,h2,-,-,h4,h5⟩ | ⟨h1,⟨i,av,h2,h3,-⟩,h4,-⟩
 ·refine .inl ⟨j,hj,av,h1,h2,?_⟩;unfold mR;rw [if_neg,List.append_nil];rintro ⟨e1,e2⟩
  rcases hs with e | e
  ·rw [h4,e1] at e;cases e
  ·rw [h5] at e;exact e2 e
 ·exact .inr ⟨h1,⟨i,av,h2,h3⟩,h4,rfl⟩
theorem addE_turn {B:Nat} {ks:List Int} {tb tb':List Pn} {c:Ct} {wp:Pn} {rows:List Rw} (h:nX B ks tb c tb' wp) (ht:wp.told=true) (hs:wp.ac.map acV≠(dD wp.ac c.vs).map acV) :
  qr ks tb rows c tb' (rows++[⟨true,(c.st,c.key.1,c.key.2,wp.ac.map acV)⟩,⟨false,(c.st,c.key.1,c.key.2,(dD wp.ac c.vs).map acV)⟩]):=by
 rcases h with ⟨j,hj,av,h1,h2,-,-,h4,h5⟩ | ⟨-,-,-,h4⟩
 ·refine .inl ⟨j,hj,av,h1,h2,?_⟩;unfold mR;rw [if_pos ⟨by rw [← h4];exact ht,by rw [← h5];exact hs⟩];unfold fj;rw [h5,h1.1,h1.2.1,h1.2.2]
 ·rw [ht] at h4;cases h4
theorem addW_mem {B:Nat} {ks:List Int} {tb tb':List Pn} {c:Ct} {wp:Pn} (h:nX B ks tb c tb' wp):∀ p∈tb',p∈tb∨bE B p.av:=fun p hp=>by
 rcases h with ⟨j,hj,av,-,rfl,h3,-⟩ | ⟨-,⟨i,av,-,rfl,h3⟩,-⟩
 ·rcases List.mem_or_eq_of_mem_set hp with hp | rfl
  ·exact .inl hp
  ·exact .inr h3
 ·rw [List.mem_append,List.mem_cons] at hp
  rcases hp with hp | rfl | hp
  ·exact .inl (List.mem_of_mem_take hp)
  ·exact .inr h3
  ·exact .inl (List.mem_of_mem_drop hp)
theorem enM_tab {w0 wk w2:World} {eb B:Nat} {q:Qy} {rdv ckv ltv va vw vb:Value} {tb tb':List Pn} {rs:List (Rw×Value)} {tv rv tv':Value} (h:EnM w0 eb B q rdv ckv ltv va vw vb tb rs tv rv wk) (h1:w0.heap.size≤B) (hb:Below wk.heap.size wk w2)
  (TT:TblR w2 tv' tb') (FU:bE wk.heap.size tv') (ha:∀ p∈tb',p∈tb∨bE wk.heap.size p.av):EnM w0 eb B q rdv ckv ltv va vw vb tb' rs tv' rv (w2.setCell ⟨eb,2,none⟩ tv'):=by
 have M2:=bW h hb;have hlt:=h.be.lt;have Kb:=ah (ae (bad:=fun k=>k=eb) (Below.refl w2.heap.size w2)) (g:=eb) rfl 2 tv';have K:=ah (ae (bad:=fun k=>k=eb∨rv.ownBlock=some k) hb) (g:=eb) (.inl rfl) 2 tv';have he:rs++([]:List (Rw×Value))=rs:=List.append_nil rs;have r:=enM_next (ns:=[]) h h1 K (by simpa using ay M2.be 2 tv' (by simp)) (cm TT Kb (fun k hk e=>by have:=FU k hk;omega) (fun p hp k hk e=>by
   rcases ha p hp with hp0 | hp0
   ·exact h.ta.2 p hp0 k (.inl e) hk
   ·have:=hp0 k hk;omega)) FU ha (by rw [he];exact bg M2.ro Kb (fun k hk e=>h.re (by rw [← e];exact hk))) (.inl rfl) (fun k hk h9=>by have:=(aJ h.ro k hk).2;omega) (fun r hr=>by simp at hr)
 rw [he] at r;exact r
theorem mQ {w0 w w':World} {eb B:Nat} {q:Qy} {rdv ckv ltv va vw vb:Value} {tb:List Pn} {rs ns:List (Rw×Value)} {tv rv rv':Value} (h:EnM w0 eb B q rdv ckv ltv va vw vb tb rs tv rv w) (h1:w0.heap.size≤B)
  (K:KeptB w w' (fun k=>k=eb∨rv.ownBlock=some k)) (hbe:BlkAt w' eb [rdv,ckv,tv,ltv,rv',va,vw,vb,.int .i64 q.size,.int .i64 q.slide,.int .i64 q.delay,.int .i64 q.late]) (hro:w'.ownsRow B 80 5 rv' (rs++ns).length (rowOf gg (rs++ns))) (hrv:rv'.ownBlock=rv.ownBlock∨∃ k,rv'.ownBlock=some k∧w.heap.size≤k)
  (hns:∀ r∈ns,gi w r.2 2 r.1.o.2.2.2.length (cB r.1.o.2.2.2)∧Apt eb rv r.2) (hnf:∀ r∈ns,bE B r.2):EnM w0 eb B q rdv ckv ltv va vw vb tb (rs++ns) tv rv' w':=by
 have hlt:=h.be.lt;have hrl:=aJ h.ro;refine ⟨hbe,cm h.tt K (fun k hk e=>h.ta.1 k e hk) (fun p hp k hk e=>h.ta.2 p hp k e hk),⟨jl h.ta.1 (fun k hk=>dm h.tt.row hk) hrv,fun p hp=>jl (h.ta.2 p hp) (fun k hk=>dm (h.tt.acc p hp) hk) hrv⟩,hro,fun r hr=>?_,?_,Nat.le_trans h.bb K.b0.size,eO h.old K (fun k hk hb=>?_),h.fa,fun r hr=>(List.mem_append.1 hr).elim (h.fr r) (hnf r)⟩
 ·have hr2:gi w r.2 2 r.1.o.2.2.2.length (cB r.1.o.2.2.2)∧Apt eb rv r.2:=by
   rcases List.mem_append.1 hr with hr | hr
   ·exact h.rn r hr
   ·exact hns r hr
  exact ⟨aZ hr2.1 K (fun k hk e=>hr2.2 k e hk),jl hr2.2 (fun k hk=>dm hr2.1 hk) hrv⟩
 ·rcases hrv with e | ⟨k,e,hk⟩
  ·rw [e];exact h.re
  ·rw [e];intro e9;cases e9;omega
 ·rcases hb with e | e
  ·exact .inl e
  ·have:=(hrl k e).1;omega
def o6 (w0:World) (eb B:Nat) (q:Qy) (rdv ckv ltv va vw vb:Value) (cs0:List Ct) (lim:Option Int) (tb0:List Pn) (rows0:List Rw) (r0:Nat):List Ct→Option Nat→World→Prop:=fun cs rb w =>
 ∃ tb rs tv rv V,EnM w0 eb B q rdv ckv ltv va vw vb tb rs tv rv w∧rb=rv.ownBlock∧EnI (q.aggs.map AgQ.kind) q (cs0++cs) lim tb (rs.map Prod.fst) V∧AddsE (q.aggs.map AgQ.kind) tb0 rows0 cs tb (rs.map Prod.fst)∧(∀ d∈cs,d.vs.length=q.aggs.length)∧rs.length≤r0+2 * cs.length
end Go.Proofs.YtcgjflamgnjhcaaGreatDoor
namespace Go.Proofs.YtcgjflamgnjhcaaGreatDoor
def eF (G:List Int) (p:Nat) (t:Int):List Int:=G.set p (max (G.getD p 0) t)
def dQ (n:Nat):List Int:=List.replicate n (-1)
theorem iU (G:List Int) (p:Nat) (t:Int):(eF G p t).length=G.length:=by simp [eF]
theorem none_len (n:Nat):(dQ n).length=n:=by simp [dQ]
theorem see_get (G:List Int) (p:Nat) (t:Int) (i:Nat) (hi:i < G.length):(eF G p t).getD i 0=if i=p then max (G.getD p 0) t else G.getD i 0:=by
 unfold eF;rw [List.getD_eq_getElem?_getD,List.getElem?_set]
 by_cases h:p=i
 ·subst h
  simp [hi]
 ·have h':¬ i=p:=fun e=>h e.symm
  simp [h,h',List.getD_eq_getElem?_getD]
theorem nums_ext {A B:List Int} (h:A.length=B.length) (hk:∀ i,i < A.length→A.getD i 0=B.getD i 0):A=B:=by
 apply List.ext_getElem h
 intro i h1 h2
 have:=hk i h1
 simpa [List.getD,h1,h2] using this
def minOf:List Int→Int
 | []=>0
 | [a]=>a
 | a :: b :: l=>min a (minOf (b :: l))
theorem min_le:∀ (G:List Int) (i:Nat),i < G.length→minOf G≤G.getD i 0
 | [],i,h=>by simp at h
 | [a],i,h=>by
  have:i=0:=by simp at h;omega
  subst this
  simp [minOf]
 | a :: b :: l,0,h=>by simp [minOf];omega
 | a :: b :: l,i+1,h=>by
  have:=min_le (b :: l) i (by simpa using h)
  simp only [minOf,List.getD_cons_succ];omega
theorem min_at:∀ (G:List Int),0 < G.length→∃ i,i < G.length∧minOf G=G.getD i 0
 | [],h=>by simp at h
 | [a],h=>⟨0,by simp,by simp [minOf]⟩
 | a :: b :: l,h=>by
  obtain ⟨i,hi,he⟩:=min_at (b :: l) (by simp)
  by_cases hab:a≤minOf (b :: l)
  ·exact ⟨0,by simp,by simp only [minOf,List.getD_cons_zero];omega⟩
  ·refine ⟨i+1,by simpa using hi,?_⟩;simp only [minOf,List.getD_cons_succ];omega
theorem min_is {G:List Int} {i:Nat} (hi:i < G.length) (h:∀ j,j < G.length→G.getD i 0≤G.getD j 0):minOf G=G.getD i 0:=by
 have h1:=min_le G i hi;obtain ⟨j,hj,he⟩:=min_at G (by omega)
 have:=h j hj
 omega
theorem min_grows {G:List Int} {p:Nat} {t:Int} (h:0 < G.length):minOf G≤minOf (eF G p t):=by
 obtain ⟨j,hj,he⟩:=min_at (eF G p t) (by rw [iU];exact h);rw [iU] at hj;rw [he,see_get _ _ _ _ hj]
 have:=min_le G j hj
 split
 ·subst_vars
  omega
 ·exact this
end Go.Proofs.YtcgjflamgnjhcaaGreatDoor
namespace Go.Proofs.YtcgjflamgnjhcaaGreatDoor
open Go.ChangeShapes Go.WideShapes Go.ChangeAt Go.RowKit
def bB (M:List (List Ev)):List Int:=M.map (ey (-1))
def jC (q:Qy) (M:List (List Ev)):Option Int:=if minOf (bB M) < 0 then none else some (minOf (bB M) - q.delay)
theorem om {M:List (List Ev)} {p:Nat} {l:List Ev} (h:M[p]?=some l) (x:Ev):bB (M.set p (l++[x]))=eF (bB M) p x.t:=by
 unfold bB eF;rw [List.map_set]
 congr 1
 have e:(M.map (ey (-1))).getD p 0=ey (-1) l:=by
  rw [List.getD_eq_getElem?_getD,List.getElem?_map,h]
  rfl
 rw [e]
 simp [ey,List.foldl_append]
structure RunI (q:Qy) (M:List (List Ev)) (tb:List Pn) (rows:List Rw) (late:Nat) (V:List Pn) (cs:List Ct):Prop where
 perm:cs.Perm (nN q M)
 late:late=pA q M
 en:EnI (q.aggs.map AgQ.kind) q cs (jC q M) tb rows V
 due:∀ p∈V,qK q (jC q M) p→p.told=true
def lY (q:Qy) (G:List Int) (p:Nat) (x:Ev) (tb:List Pn) (rows:List Rw) (late:Nat) (tb':List Pn) (rows':List Rw) (late':Nat):Prop :=
 ∃ tb1 rows1,AddsE (q.aggs.map AgQ.kind) tb rows (takeC q x (bF q (G.getD p 0)) (decide (0≤G.getD p 0))) tb1 rows1∧late'=late+takeN q x (bF q (G.getD p 0)) (decide (0≤G.getD p 0)) ∧
  ((minOf (eF G p x.t) < 0∧tb'=tb1∧rows'=rows1)∨(0≤minOf (eF G p x.t)∧tb'=m5 q (minOf (eF G p x.t) - q.delay) tb1∧rows'=rows1++dE q (minOf (eF G p x.t) - q.delay) tb1))
theorem gI (q:Qy):∀ (n:Nat),nN q (List.replicate n [])=[]∧pA q (List.replicate n [])=0
 | 0=>⟨rfl,rfl⟩
 | n+1=>by
  rw [List.replicate_succ,eQ,eK,(gI q n).1,(gI q n).2];exact ⟨rfl,rfl⟩
theorem run_start (q:Qy) (n:Nat) (h:0 < n):RunI q (List.replicate n []) [] [] 0 [] []:=by
 have e:jC q (List.replicate n [])=none:=by
  unfold jC bB;rw [if_pos];obtain ⟨i,hi,e⟩:=min_at (List.map (ey (-1)) (List.replicate n [])) (by simpa using h);rw [e,List.getD_eq_getElem?_getD];simp at hi
  simp [List.getElem?_replicate,hi,ey]
 exact ⟨by rw [(gI q n).1],by rw [(gI q n).2],by rw [e];exact enI_nil _ q,fun p hp=>by simp at hp⟩
theorem run_step {q:Qy} {M:List (List Ev)} {tb tb':List Pn} {rows rows':List Rw} {late late':Nat} {V:List Pn} {cs:List Ct} (h:RunI q M tb rows late V cs) {p:Nat} {l:List Ev} (hp:M[p]?=some l) (hl:∀ y∈l,evC y=0) {x:Ev} (hx:evC x=0) (hq:0≤q.late)
  (hs:lY q (bB M) p x tb rows late tb' rows' late'):∃ V' cs',RunI q (M.set p (l++[x])) tb' rows' late' V' cs':=by
 obtain ⟨tb1,rows1,ha,hlt,hs⟩:=hs;have hpl:p < (bB M).length:=by
  unfold bB;rw [List.length_map];exact (List.getElem?_eq_some_iff.1 hp).1
 have hg:(bB M).getD p 0=ey (-1) l:=by
  unfold bB;rw [List.getD_eq_getElem?_getD,List.getElem?_map,hp]
  rfl
 rw [hg] at ha hlt;obtain ⟨c1,c2⟩:=iN hx M p l hp hl (q:=q);have hmin:minOf (bB M)≤ey (-1) l:=by rw [← hg];exact min_le _ p hpl
 have hgrow:minOf (bB M)≤minOf (eF (bB M) p x.t):=min_grows (by omega);have hk:∀ d∈takeC q x (bF q (ey (-1) l)) (decide (0≤ey (-1) l)),nV q (jC q M) d.st=true:=fun d hd=>by
  unfold jC
  by_cases hm:minOf (bB M) < 0
  ·rw [if_pos hm];rfl
  ·rw [if_neg hm];have h0:0≤ey (-1) l:=by omega
   rw [decide_eq_true h0] at hd;have e:bF q (ey (-1) l)=ey (-1) l - q.delay:=by unfold bF;rw [if_neg (by omega)]
   rw [e] at hd;unfold takeC at hd
   split at hd
   ·unfold kJ at hd;obtain ⟨st,h1,rfl⟩:=List.mem_map.1 hd;have h2:=(List.mem_filter.1 h1).2;simp only [fx,Bool.true_and,Bool.not_eq_true',decide_eq_false_iff_not] at h2;unfold nV;simp only [Bool.not_eq_true',decide_eq_false_iff_not];omega
   ·simp at hd
 obtain ⟨V1,h1⟩:=enI_adds h.en ha hk;have hset:=om hp x;have hperm:(cs++takeC q x (bF q (ey (-1) l)) (decide (0≤ey (-1) l))).Perm (nN q (M.set p (l++[x]))):=(h.perm.append_right _).trans c1.symm;have hlate:late'=pA q (M.set p (l++[x])):=by rw [hlt,c2,h.late]
 rcases hs with ⟨hm,rfl,rfl⟩ | ⟨hm,rfl,rfl⟩
 ·have e1:jC q M=none:=by unfold jC;rw [if_pos (by omega)]
  have e2:jC q (M.set p (l++[x]))=none:=by unfold jC;rw [hset,if_pos hm]
  rw [e1] at h1;exact ⟨V1,_,hperm,hlate,by rw [e2];exact h1,fun p hp=>by rw [e2];rintro ⟨u,e,-⟩;cases e⟩
 ·have e2:jC q (M.set p (l++[x]))=some (minOf (eF (bB M) p x.t) - q.delay):=by unfold jC;rw [hset,if_neg (by omega)]
  obtain ⟨t1,t2⟩:=enI_tell h1 (minOf (eF (bB M) p x.t) - q.delay) (fun u0 e=>by
   unfold jC at e
   split at e
   ·cases e
   ·cases e;omega) hq
  exact ⟨_,_,hperm,hlate,by rw [e2];exact t1,fun p hp he=>t2 p hp (by rw [← e2];exact he)⟩
theorem ofV_mem {ks:List Int} {cs cs':List Ct} {V tA:List Pn} (h:OfV ks cs V) (h':OfT ks cs' tA) (hk:pm ks cs cs') (x:Ot):x∈V.map fj↔x∈tA.map fj:=by
 constructor
 ·intro hx;obtain ⟨p,hp,rfl⟩:=List.mem_map.1 hx;obtain ⟨h1,h2⟩:=h.acc p hp;obtain ⟨e1,e2⟩:=hk p.st p.k p.n;obtain ⟨c,hc⟩:=List.exists_mem_of_ne_nil _ (fun e=>h2 (e2.2 e));have hcm:=List.mem_filter.1 hc;have hck:c.st=p.st∧c.key.1=p.k∧c.key.2=p.n:=by simpa using hcm.2
  obtain ⟨p',hp',k1,k2,k3⟩:=h'.all c hcm.1;have h3:=(h'.acc p' hp').2.1;refine List.mem_map.2 ⟨p',hp',?_⟩;unfold fj;rw [h3,h1,k1,k2,k3,hck.1,hck.2.1,hck.2.2,e1]
 ·intro hx;obtain ⟨p,hp,rfl⟩:=List.mem_map.1 hx;obtain ⟨-,h1,h2⟩:=h'.acc p hp;obtain ⟨e1,e2⟩:=hk p.st p.k p.n;obtain ⟨c,hc⟩:=List.exists_mem_of_ne_nil _ (fun e=>h2 (e2.1 e));have hcm:=List.mem_filter.1 hc;have hck:c.st=p.st∧c.key.1=p.k∧c.key.2=p.n:=by simpa using hcm.2
  obtain ⟨p',hp',k1,k2,k3⟩:=h.all c hcm.1;have h3:=(h.acc p' hp').1;refine List.mem_map.2 ⟨p',hp',?_⟩;unfold fj;rw [h3,h1,k1,k2,k3,hck.1,hck.2.1,hck.2.2,e1]
theorem run_so {q:Qy} {M:List (List Ev)} {tb:List Pn} {rows:List Rw} {late:Nat} {V:List Pn} {cs:List Ct} (h:RunI q M tb rows late V cs):∃ out,netL [] rows=some out∧(out.map dt).Nodup∧(jC q M=none→out=[]) ∧
  ∀ u tA,jC q M=some u→OfT (q.aggs.map AgQ.kind) (nN q M) tA→∀ x,x∈out↔x∈(tA.map fj).filter (uptoB q.size u):=by
 obtain ⟨out,n1,n2,n3⟩:=h.en.net;refine ⟨out,n1,n2,fun e=>?_,fun u tA e hA x=>?_⟩
 ·refine List.eq_nil_iff_forall_not_mem.2 fun x hx=>?_
  obtain ⟨p,hp,ht,-⟩:=(n3 x).1 hx;obtain ⟨u,e1,-⟩:=h.en.told p hp ht;rw [e] at e1;cases e1
 ·have hm:=ofV_mem h.en.ofv hA (gY _ h.perm) x;rw [n3 x,List.mem_filter,← hm]
  constructor
  ·rintro ⟨p,hp,ht,rfl⟩;obtain ⟨u0,e1,e2⟩:=h.en.told p hp ht;rw [e] at e1;cases e1;exact ⟨List.mem_map_of_mem hp,decide_eq_true e2⟩
  ·rintro ⟨hx,hu⟩;obtain ⟨p,hp,rfl⟩:=List.mem_map.1 hx;exact ⟨p,hp,h.due p hp ⟨u,e,of_decide_eq_true hu⟩,rfl⟩
end Go.Proofs.YtcgjflamgnjhcaaGreatDoor

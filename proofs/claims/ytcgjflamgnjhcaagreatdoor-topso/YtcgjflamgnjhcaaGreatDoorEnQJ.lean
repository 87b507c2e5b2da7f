/- Own texts in one. Conditions: as named in each. -/
import Derived.Test.YtcgjflamgnjhcaaGreatDoorPaneDJ
import Derived.Test.YtcgjflamgnjhcaaGreatDoorChkRJ
import Derived.Test.YtcgjflamgnjhcaaGreatDoorBtFJ
set_option linter.unusedVariables false
set_option linter.unusedSimpArgs false
set_option maxRecDepth 100000
set_option maxHeartbeats 8000000
namespace Go.Proofs.YtcgjflamgnjhcaaGreatDoor
open Go.ChangeShapes Go.WideShapes Go.ChangeAt Go.RowKit
def na (p:Pn) (c:Ct):List Rw :=
 if p.told=true∧p.ac.map acV≠(d8 p.ac c.vs).map acV then [⟨true,eT p⟩,⟨false,(p.st,p.k,p.n,(d8 p.ac c.vs).map acV)⟩] else []
def qA (ks:List Int) (tb:List Pn) (rows:List Rw) (c:Ct) (tb':List Pn) (rows':List Rw):Prop :=
 (∃ (j:Nat) (hj:j < tb.length) (av:Value),(tb[j].st=c.st∧tb[j].k=c.key.1∧tb[j].n=c.key.2)∧tb'=tb.set j ⟨c.st,c.key.1,c.key.2,tb[j].told,d8 tb[j].ac c.vs,av⟩∧rows'=rows++na tb[j] c) ∨
 ((∀ p∈tb,¬ (p.st=c.st∧p.k=c.key.1∧p.n=c.key.2))∧(∃ (i:Nat) (av:Value),i≤tb.length∧tb'=tb.take i++⟨c.st,c.key.1,c.key.2,false,d8 (ks.map gM) c.vs,av⟩ :: tb.drop i)∧iw tb'∧rows'=rows)
def nZ (q:Qy) (lim:Option Int) (st:Int):Bool:=match lim with
 | none=>true
 | some u=>!decide (st+(q.size+q.late)≤u)
def kpt (q:Qy) (lim:Option Int) (p:Pn):Bool:=nZ q lim p.st
def qS (q:Qy) (lim:Option Int) (p:Pn):Prop:=∃ u,lim=some u∧p.st+q.size≤u
structure EnI (ks:List Int) (q:Qy) (cs:List Ct) (lim:Option Int) (tb:List Pn) (rows:List Rw) (V:List Pn):Prop where
 ofv:OfV ks cs V
 tb:tb=V.filter (kpt q lim)
 told:∀ p∈V,p.told=true→qS q lim p
 gone:∀ p∈V,kpt q lim p=false→p.told=true
 net:qw rows V
theorem enI_nil (ks:List Int) (q:Qy):EnI ks q [] none [] [] []:=⟨ofV_nil ks,rfl,by simp,by simp,netI_nil⟩
theorem updR_mem {x y:Pn} {l:List Pn}:y∈nT x l↔(y=x∧∃ p∈l,dm p=dm x)∨(y∈l∧dm y≠dm x):=by
 unfold nT;rw [List.mem_map]
 constructor
 ·rintro ⟨p,hp,e⟩
  by_cases hk:dm p=dm x
  ·rw [if_pos hk] at e;exact .inl ⟨e.symm,p,hp,hk⟩
  ·rw [if_neg hk] at e;subst e;exact .inr ⟨hp,hk⟩
 ·rintro (⟨e,p,hp,hk⟩ | ⟨hy,hk⟩)
  ·exact ⟨p,hp,by rw [if_pos hk,e]⟩
  ·exact ⟨y,hy,by rw [if_neg hk]⟩
theorem eM {p x:Pn} (h:dm p=dm x):p.st=x.st∧p.k=x.k∧p.n=x.n:=by
 unfold dm at h
 simpa only [Prod.mk.injEq] using h
theorem kh {V:List Pn} (h:iw V) {p r:Pn} (hp:p∈V) (hr:r∈V) (e:dm p=dm r):p=r:=by
 obtain ⟨i,hi,rfl⟩:=List.mem_iff_getElem.1 hp;obtain ⟨j,hj,rfl⟩:=List.mem_iff_getElem.1 hr
 have:=iP h (List.getElem?_eq_getElem hi) (List.getElem?_eq_getElem hj) (eM e)
 subst this
 rfl
theorem my {q:Qy} {lim:Option Int} {p x:Pn} (h:dm p=dm x):kpt q lim p=kpt q lim x:=by
 unfold kpt;rw [(eM h).1]
theorem oH {ks:List Int} {q:Qy} {cs:List Ct} {lim:Option Int} {tb tb':List Pn} {rows rows':List Rw} {V:List Pn} (h:EnI ks q cs lim tb rows V) (c:Ct) (hk:nZ q lim c.st=true) (ha:qA ks tb rows c tb' rows') :
  ∃ V',EnI ks q (cs++[c]) lim tb' rows' V':=by
 have hRV:V.Pairwise plt:=h.ofv.rise;have hRT:iw tb:=by rw [h.tb];exact hRV.filter _
 rcases ha with ⟨j,hj,av,he,rfl,rfl⟩ | ⟨hno,⟨i,av,hi,rfl⟩,hR,rfl⟩
 ·have hpt:tb[j]∈tb:=List.getElem_mem hj;have hpV:tb[j]∈V:=by
   have:tb[j]∈V.filter (kpt q lim):=h.tb ▸ hpt;exact (List.mem_filter.1 this).1
  generalize hpe:tb[j]=p at *;obtain ⟨x,hx⟩:∃ x:Pn,x=⟨c.st,c.key.1,c.key.2,p.told,d8 p.ac c.vs,av⟩:=⟨_,rfl⟩;rw [← hx];have hkx:dm p=dm x:=by rw [hx];unfold dm;rw [he.1,he.2.1,he.2.2]
  have hset:tb.set j x=nT x tb:=set_updR hRT hj (by rw [hpe];exact hkx);have hst:x.st=c.st∧x.k=c.key.1∧x.n=c.key.2:=by rw [hx];exact ⟨rfl,rfl,rfl⟩
  have hac:=h.ofv.acc p hpV;have hkc:kpt q lim x=true:=by unfold kpt;rw [hst.1];exact hk
  refine ⟨nT x V,⟨updR_rise hRV,fun y hy=>?_,fun d hd=>?_,by have:=h.ofv.few;simp [nT];omega⟩,?_,fun y hy ht=>?_,fun y hy hg=>?_,?_⟩
  ·rcases updR_mem.1 hy with ⟨e,-⟩ | ⟨hyV,hne⟩
   ·rw [e,hst.1,hst.2.1,hst.2.2,eL,gZ _ _ _ c ⟨rfl,rfl,rfl⟩];refine ⟨?_,by simp⟩;rw [fJ,← he.1,← he.2.1,← he.2.2,← hac.1,hx]
   ·obtain ⟨a1,a2⟩:=h.ofv.acc y hyV;rw [eL,iM _ _ _ c (fun e=>hne (by unfold dm;rw [hst.1,hst.2.1,hst.2.2,e.1,e.2.1,e.2.2])),List.append_nil];exact ⟨a1,a2⟩
  ·rcases List.mem_append.1 hd with hd | hd
   ·obtain ⟨r,hr,e⟩:=h.ofv.all d hd
    by_cases hrk:dm r=dm x
    ·have:=eM hrk
     exact ⟨x,updR_mem.2 (.inl ⟨rfl,r,hr,hrk⟩),by rw [← this.1];exact e.1,by rw [← this.2.1];exact e.2.1,by rw [← this.2.2];exact e.2.2⟩
    ·exact ⟨r,updR_mem.2 (.inr ⟨hr,hrk⟩),e⟩
   ·rw [List.mem_singleton.1 hd];exact ⟨x,updR_mem.2 (.inl ⟨rfl,p,hpV,hkx⟩),hst⟩
  ·rw [hset,filter_updR (kpt q lim) (fun r hr=>my hr),← h.tb]
  ·rcases updR_mem.1 hy with ⟨e,-⟩ | ⟨hyV,-⟩
   ·have:p.told=true:=by rw [e,hx] at ht;exact ht
    obtain ⟨u,e1,e2⟩:=h.told p hpV this;exact ⟨u,e1,by rw [e,hst.1,← he.1];exact e2⟩
   ·exact h.told y hyV ht
  ·rcases updR_mem.1 hy with ⟨e,-⟩ | ⟨hyV,-⟩
   ·rw [e,hkc] at hg;cases hg
   ·exact h.gone y hyV hg
  ·have hox:eT x=(p.st,p.k,p.n,(d8 p.ac c.vs).map acV):=by rw [hx];unfold eT;rw [he.1,he.2.1,he.2.2]
   have hmem:∀ z,(∃ r∈nT x V,r.told=true∧eT r=z)↔(x.told=true∧eT x=z)∨((∃ r∈V,r.told=true∧eT r=z)∧dv z≠dm x):=fun z=>by
    constructor
    ·rintro ⟨r,hr,h1,h2⟩
     rcases updR_mem.1 hr with ⟨e,-⟩ | ⟨hrV,hne⟩
     ·rw [e] at h1 h2;exact .inl ⟨h1,h2⟩
     ·exact .inr ⟨⟨r,hrV,h1,h2⟩,by rw [← h2,ee];exact hne⟩
    ·rintro (⟨h1,h2⟩ | ⟨⟨r,hr,h1,h2⟩,hne⟩)
     ·exact ⟨x,updR_mem.2 (.inl ⟨rfl,p,hpV,hkx⟩),h1,h2⟩
     ·exact ⟨r,updR_mem.2 (.inr ⟨hr,by rw [← ee,h2];exact hne⟩),h1,h2⟩
   have htx:x.told=p.told:=by rw [hx]
   have hold:∀ z,(∃ r∈V,r.told=true∧eT r=z)→dv z=dm x→z=eT p:=fun z ⟨r,hr,h1,h2⟩ e=>by
    rw [← h2] at e ⊢;rw [kh hRV hr hpV (by rw [← ee,e,hkx])]
   unfold na
   by_cases hrr:p.told=true∧p.ac.map acV≠(d8 p.ac c.vs).map acV
   ·rw [if_pos hrr,← hox];refine netI_turn h.net (by rw [ee,ee,hkx]) ⟨p,hpV,hrr.1,rfl⟩ (fun z=>?_);rw [hmem z,ee,← hkx]
    constructor
    ·rintro (⟨-,e⟩ | e)
     ·exact .inl e.symm
     ·exact .inr e
    ·rintro (e | e)
     ·exact .inl ⟨by rw [htx];exact hrr.1,e.symm⟩
     ·exact .inr e
   ·rw [if_neg hrr,List.append_nil];refine m7 h.net (fun z=>?_);rw [hmem z]
    by_cases htp:p.told=true
    ·have heq:p.ac.map acV=(d8 p.ac c.vs).map acV:=Classical.byContradiction fun e=>hrr ⟨htp,e⟩
     have hoe:eT x=eT p:=by rw [hox,← heq];rfl
     constructor
     ·intro hz
      by_cases hzk:dv z=dm x
      ·exact .inl ⟨by rw [htx];exact htp,by rw [hoe];exact (hold z hz hzk).symm⟩
      ·exact .inr ⟨hz,hzk⟩
     ·rintro (⟨-,e⟩ | ⟨hz,-⟩)
      ·exact ⟨p,hpV,htp,by rw [← hoe];exact e⟩
      ·exact hz
    ·constructor
     ·rintro ⟨r,hr,h1,h2⟩;refine .inr ⟨⟨r,hr,h1,h2⟩,fun e=>?_⟩;rw [← h2,ee] at e;rw [kh hRV hr hpV (by rw [e,hkx])] at h1;exact htp h1
     ·rintro (⟨e,-⟩ | ⟨hz,-⟩)
      ·rw [htx] at e;exact absurd e htp
      ·exact hz
 ·obtain ⟨x,hx⟩:∃ x:Pn,x=⟨c.st,c.key.1,c.key.2,false,d8 (ks.map gM) c.vs,av⟩:=⟨_,rfl⟩;rw [← hx] at hR ⊢;have hst:x.st=c.st∧x.k=c.key.1∧x.n=c.key.2:=by rw [hx];exact ⟨rfl,rfl,rfl⟩
  have hkc:kpt q lim x=true:=by unfold kpt;rw [hst.1];exact hk
  have hnV:∀ p∈V,dm p≠dm x:=fun p hp e=>by
   have hpt:p∈tb:=by rw [h.tb];exact List.mem_filter.2 ⟨hp,by rw [my e];exact hkc⟩
   have:=eM e
   exact hno p hpt ⟨this.1.trans hst.1,this.2.1.trans hst.2.1,this.2.2.trans hst.2.2⟩
  have hz:ofK c.st c.key.1 c.key.2 cs=[]:=by
   unfold ofK;rw [List.filter_eq_nil_iff];intro d hd;simp only [decide_eq_true_eq];intro e;obtain ⟨p,hp,e1,e2,e3⟩:=h.ofv.all d hd;exact hnV p hp (by unfold dm;rw [hst.1,hst.2.1,hst.2.2,e1,e2,e3,e.1,e.2.1,e.2.2])
  have htx:x.told=false:=by rw [hx]
  refine ⟨nR x V,⟨fq x V hRV hnV,fun y hy=>?_,fun d hd=>?_,by have:=h.ofv.few;rw [nh];simp;omega⟩,?_,fun y hy ht=>?_,fun y hy hg=>?_,m7 h.net (fun z=>?_)⟩
  ·rcases (cU x y V).1 hy with e | hyV
   ·rw [e,hst.1,hst.2.1,hst.2.2,eL,hz,gZ _ _ _ c ⟨rfl,rfl,rfl⟩,hx];exact ⟨rfl,by simp⟩
   ·obtain ⟨a1,a2⟩:=h.ofv.acc y hyV;have hne:=hnV y hyV;rw [eL,iM _ _ _ c (fun e=>hne (by unfold dm;rw [hst.1,hst.2.1,hst.2.2,e.1,e.2.1,e.2.2])),List.append_nil];exact ⟨a1,a2⟩
  ·rcases List.mem_append.1 hd with hd | hd
   ·obtain ⟨r,hr,e⟩:=h.ofv.all d hd;exact ⟨r,(cU x r V).2 (.inr hr),e⟩
   ·rw [List.mem_singleton.1 hd];exact ⟨x,(cU x x V).2 (.inl rfl),hst⟩
  ·rw [ins_is hR,filter_insR hRV hnV (kpt q lim) hkc,← h.tb]
  ·rcases (cU x y V).1 hy with e | hyV
   ·rw [e,htx] at ht;cases ht
   ·exact h.told y hyV ht
  ·rcases (cU x y V).1 hy with e | hyV
   ·rw [e,hkc] at hg;cases hg
   ·exact h.gone y hyV hg
  ·constructor
   ·rintro ⟨r,hr,h1,h2⟩;exact ⟨r,(cU x r V).2 (.inr hr),h1,h2⟩
   ·rintro ⟨r,hr,h1,h2⟩
    rcases (cU x r V).1 hr with e | hrV
    ·rw [e,htx] at h1;cases h1
    ·exact ⟨r,hrV,h1,h2⟩
theorem bT (size u:Int) (p:Pn):dm (cR size u p)=dm p∧eT (cR size u p)=eT p∧(cR size u p).st=p.st∧(cR size u p).ac=p.ac:=by
 unfold cR
 split <;> exact ⟨rfl,rfl,rfl,rfl⟩
theorem dV (size u:Int) (p:Pn):(cR size u p).told=(p.told || decide (p.st+size≤u)):=by
 unfold cR dA;cases h:p.told <;> by_cases h2:p.st+size≤u <;> simp [h,h2]
def dI (q:Qy) (u:Int) (tb:List Pn):List Rw:=(tb.filter (dA q.size u)).map fun p=>⟨false,eT p⟩
def lL (q:Qy) (u:Int) (tb:List Pn):List Pn:=(tb.map (cR q.size u)).filter (stays (q.size+q.late) u)
theorem enI_tell {ks:List Int} {q:Qy} {cs:List Ct} {lim:Option Int} {tb:List Pn} {rows:List Rw} {V:List Pn} (h:EnI ks q cs lim tb rows V) (u:Int) (hle:∀ u0,lim=some u0→u0≤u) (hl0:0≤q.late) :
  EnI ks q cs (some u) (lL q u tb) (rows++dI q u tb) (V.map (cR q.size u))∧∀ p∈V.map (cR q.size u),qS q (some u) p→p.told=true:=by
 have hRV:V.Pairwise plt:=h.ofv.rise;have hdue:∀ p∈V,dA q.size u p=true→kpt q lim p=true:=fun p hp hd=>by
  cases hk:kpt q lim p with
  | true=>rfl
  | false =>
   have:=h.gone p hp hk
   unfold dA at hd;rw [this] at hd;cases hd
 have hdt:tb.filter (dA q.size u)=V.filter (dA q.size u):=by
  rw [h.tb,List.filter_filter];refine List.filter_congr fun p hp=>?_
  cases hd:dA q.size u p with
  | false=>simp
  | true=>simp [hdue p hp hd]
 refine ⟨⟨⟨?_,fun y hy=>?_,fun d hd=>?_,by simpa using h.ofv.few⟩,?_,fun y hy ht=>?_,fun y hy hg=>?_,?_⟩,fun y hy he=>?_⟩
 ·refine List.pairwise_map.2 (hRV.imp fun {a b} hab=>?_);have ea:=eM (bT q.size u a).1;have eb:=eM (bT q.size u b).1;rw [ea.1,ea.2.1,ea.2.2,eb.1,eb.2.1,eb.2.2];exact hab
 ·obtain ⟨p,hp,rfl⟩:=List.mem_map.1 hy;have e:=eM (bT q.size u p).1;rw [(bT q.size u p).2.2.2,e.1,e.2.1,e.2.2];exact h.ofv.acc p hp
 ·obtain ⟨p,hp,e⟩:=h.ofv.all d hd;have e1:=eM (bT q.size u p).1;exact ⟨_,List.mem_map_of_mem hp,by rw [e1.1,e1.2.1,e1.2.2];exact e⟩
 ·unfold lL;rw [h.tb,List.filter_map,List.filter_map,List.filter_filter]
  congr 1
  refine List.filter_congr fun p hp=>?_
  simp only [Function.comp];have e1:stays (q.size+q.late) u (cR q.size u p)=kpt q (some u) p:=by
   unfold stays kpt nZ;rw [(bT q.size u p).2.2.1]
  have e2:kpt q (some u) (cR q.size u p)=kpt q (some u) p:=my (bT q.size u p).1;rw [e1,e2];cases hk:kpt q (some u) p with
  | false=>simp
  | true =>
   have:kpt q lim p=true:=by
    cases hl:lim with
    | none=>rfl
    | some u0 =>
     have:=hle u0 hl
     unfold kpt nZ at hk ⊢;simp only [Bool.not_eq_true',decide_eq_false_iff_not] at hk ⊢;omega
   rw [this]
   rfl
 ·obtain ⟨p,hp,rfl⟩:=List.mem_map.1 hy;rw [dV] at ht;refine ⟨u,rfl,?_⟩;rw [(bT q.size u p).2.2.1]
  rcases Bool.or_eq_true_iff.1 ht with ht | ht
  ·obtain ⟨u0,e1,e2⟩:=h.told p hp ht
   have:=hle u0 e1
   omega
  ·exact of_decide_eq_true ht
 ·obtain ⟨p,hp,rfl⟩:=List.mem_map.1 hy;rw [dV];unfold kpt nZ at hg;rw [(bT q.size u p).2.2.1] at hg;simp only [Bool.not_eq_false',decide_eq_true_eq] at hg;rw [decide_eq_true (by omega)]
  simp
 ·obtain ⟨out,n1,n2,n3⟩:=h.net;have hr:dI q u tb=((V.filter (dA q.size u)).map eT).map (Rw.mk false):=by
   unfold dI;rw [hdt,List.map_map]
   rfl
  have hk2:(((V.filter (dA q.size u)).map eT).map dv).Nodup:=by
   rw [List.map_map]
   show List.Pairwise _ _
   refine List.pairwise_map.2 ((hRV.filter _).imp fun {a b} hab=>?_);intro e
   have:=eM (show dm a=dm b from e)
   unfold plt lexlt at hab;omega
  have hk3:∀ x∈(V.filter (dA q.size u)).map eT,dv x ∉ out.map dv:=fun x hx hm=>by
   obtain ⟨p,hp,rfl⟩:=List.mem_map.1 hx;obtain ⟨hpV,hpd⟩:=List.mem_filter.1 hp;obtain ⟨y,hy,e⟩:=List.mem_map.1 hm;obtain ⟨r,hr,h1,h2⟩:=(n3 y).1 hy;rw [← h2] at e
   have:=kh hRV hr hpV e
   rw [this] at h1;unfold dA at hpd;rw [h1] at hpd;cases hpd
  refine ⟨out++(V.filter (dA q.size u)).map eT,?_,?_,fun x=>?_⟩
  ·rw [netL_app,n1,hr];exact netL_say _ out n2 hk2 hk3
  ·rw [List.map_append];refine List.nodup_append.2 ⟨n2,hk2,fun a ha b hb e=>?_⟩;obtain ⟨y,hy,e1⟩:=List.mem_map.1 hb;exact hk3 y hy (by rw [e1,← e];exact ha)
  ·rw [List.mem_append,n3 x]
   constructor
   ·rintro (⟨p,hp,h1,h2⟩ | hx)
    ·exact ⟨_,List.mem_map_of_mem hp,by rw [dV,h1];rfl,by rw [(bT q.size u p).2.1];exact h2⟩
    ·obtain ⟨p,hp,rfl⟩:=List.mem_map.1 hx;obtain ⟨hpV,hpd⟩:=List.mem_filter.1 hp;refine ⟨_,List.mem_map_of_mem hpV,?_,(bT q.size u p).2.1⟩;unfold dA at hpd;rw [dV,(Bool.and_eq_true_iff.1 hpd).2]
     simp
   ·rintro ⟨y,hy,h1,h2⟩;obtain ⟨p,hp,rfl⟩:=List.mem_map.1 hy;rw [(bT q.size u p).2.1] at h2
    by_cases ht:p.told=true
    ·exact .inl ⟨p,hp,ht,h2⟩
    ·refine .inr (List.mem_map.2 ⟨p,List.mem_filter.2 ⟨hp,?_⟩,h2⟩);rw [dV] at h1;unfold dA;cases hpt:p.told with
     | true=>exact absurd hpt ht
     | false =>
      rw [hpt] at h1
      simpa using h1
 ·obtain ⟨p,hp,rfl⟩:=List.mem_map.1 hy;obtain ⟨u0,e1,e2⟩:=he;cases e1;rw [(bT q.size u p).2.2.1] at e2;rw [dV,decide_eq_true e2]
  simp
theorem chkAs_zero:∀ {l:List AgQ},chkAs l=0→∀ a∈l,chkA a=0
 | [],_,a,h=>by simp at h
 | b :: l,h,a,ha=>by
  unfold chkAs at h
  by_cases hb:chkA b=0
  ·rw [if_neg (by simp [hb])] at h
   rcases List.mem_cons.1 ha with rfl | ha
   ·exact hb
   ·exact chkAs_zero h a ha
  ·rw [if_pos hb] at h;exact absurd h hb
theorem ik {l:List Nd} (h:(cP l).2=0):kt l=0:=by
 by_cases h9:kt l=0
 ·exact h9
 ·exfalso
  have e:(cP l).2=kt l:=by unfold cP;rw [if_pos h9]
  rw [e] at h;exact h9 h
structure OkQ (q:Qy):Prop where
 n0:0 < q.aggs.length
 n4:q.aggs.length≤4
 ag:∀ a∈q.aggs,chkA a=0
 wh:0 < q.wh.length→kt q.wh=0
 by_:0 < q.bys.length→kt q.bys=0
 s1:1≤q.size∧q.size≤1000
 s2:1≤q.slide∧q.slide≤1000
 s3:0≤q.delay∧q.delay≤1000
 s4:0≤q.late∧q.late≤1000
theorem gR {q:Qy} (h:chkQ q=0):OkQ q:=by
 unfold chkQ at h
 by_cases h1:q.aggs.length=0∨4 < q.aggs.length
 ·rw [if_pos h1] at h;exact absurd h (by decide)
 rw [if_neg h1] at h;have h2:chkAs q.aggs=0:=Classical.byContradiction fun h2=>by rw [if_pos h2] at h;exact h2 h
 rw [if_neg (by simp [h2])] at h;have h3:chkW q.wh=0:=Classical.byContradiction fun h3=>by rw [if_pos h3] at h;exact h3 h
 rw [if_neg (by simp [h3])] at h;have h4:chkB q.bys=0:=Classical.byContradiction fun h4=>by rw [if_pos h4] at h;exact h4 h
 rw [if_neg (by simp [h4])] at h;unfold p7 at h
 by_cases h5:q.size < 1∨1000 < q.size∨q.slide < 1∨1000 < q.slide∨q.delay < 0∨1000 < q.delay∨q.late < 0∨1000 < q.late
 ·rw [if_pos h5] at h;exact absurd h (by decide)
 refine ⟨by omega,by omega,chkAs_zero h2,fun hp=>?_,fun hp=>?_,by omega,by omega,by omega,by omega⟩
 ·unfold chkW at h3;rw [if_neg (by omega)] at h3
  by_cases h6:(cP q.wh).2=0
  ·exact ik h6
  ·rw [if_pos h6] at h3;exact absurd h3 h6
 ·unfold chkB at h4;rw [if_neg (by omega)] at h4;exact ik h4
theorem kR {l:List Nd} (h:kt l=0):∀ n∈l,okN n=0:=fun n hn=>by
 obtain ⟨bs,hg,-⟩:=good_of_chk h;obtain ⟨i,hi,rfl⟩:=List.mem_iff_getElem.1 hn;exact (hg.2 i _ (List.getElem?_eq_getElem hi)).1
theorem pT {q:Qy} (h:chkQ q=0):QyN q:=by
 have hq:=gR h;refine ⟨fun n hn=>?_,fun n hn=>?_,fun a ha n hn=>?_⟩
 ·exact kR (hq.wh (List.length_pos_of_mem hn)) n hn
 ·exact kR (hq.by_ (List.length_pos_of_mem hn)) n hn
 ·have h1:=hq.ag a ha;unfold chkA at h1
  by_cases h2:a.kind < 1∨5 < a.kind
  ·rw [if_pos h2] at h1;exact absurd h1 (by decide)
  ·rw [if_neg h2] at h1
   by_cases h3:a.kind=1
   ·rw [if_pos h3,if_pos (List.length_pos_of_mem hn)] at h1;exact absurd h1 (by decide)
   ·rw [if_neg h3] at h1
    by_cases h4:(cP a.of).2=0
    ·exact kR (ik h4) n hn
    ·rw [if_pos h4] at h1;exact absurd h1 h4
theorem pR {q:Qy} (h:chkQ q=0):∀ a∈q.aggs,1≤a.kind∧a.kind≤5:=fun a ha=>by
 have h1:=(gR h).ag a ha;unfold chkA at h1
 by_cases h2:a.kind < 1∨5 < a.kind
 ·rw [if_pos h2] at h1;exact absurd h1 (by decide)
 ·omega
theorem lI {q:Qy} (h:chkQ q=0):QyS q:=by
 have hq:=gR h;have h5:p7 q=0:=by
  unfold chkQ at h
  by_cases h1:q.aggs.length=0∨4 < q.aggs.length
  ·rw [if_pos h1] at h;exact absurd h (by decide)
  rw [if_neg h1] at h;have h2:chkAs q.aggs=0:=Classical.byContradiction fun h2=>by rw [if_pos h2] at h;exact h2 h
  rw [if_neg (by simp [h2])] at h;have h3:chkW q.wh=0:=Classical.byContradiction fun h3=>by rw [if_pos h3] at h;exact h3 h
  rw [if_neg (by simp [h3])] at h;have h4:chkB q.bys=0:=Classical.byContradiction fun h4=>by rw [if_pos h4] at h;exact h4 h
  rw [if_neg (by simp [h4])] at h;exact h
 unfold p7 at h5;rw [if_neg (by have:=hq.s1;have:=hq.s2;have:=hq.s3;have:=hq.s4;omega)] at h5;have h6:¬ (q.size < q.slide∨4 * q.slide < q.size):=fun h6=>by rw [if_pos h6] at h5;exact absurd h5 (by decide)
 have:=hq.s1
 have:=hq.s2
 have:=hq.s3
 have:=hq.s4
 constructor <;> omega
theorem gH {q:Qy} (hS:QyS q):∀ (l:List Ev) (g:Int) (k:Bool),(partC q g k l).length≤4 * l.length∧partN q g k l≤4 * l.length
 | [],g,k=>by simp [partC,partN]
 | x :: l,g,k=>by
  unfold partC partN
  by_cases h:evC x≠0
  ·rw [if_pos h,if_pos h]
   have:=gH hS l g k
   simp only [List.length_cons];omega
  ·rw [if_neg h,if_neg h];have h0:evC x=0:=by omega
   obtain ⟨-,t0,t1⟩:=kJ h0;have h1:=jh (q:=q) (x:=x) ⟨t0,t1,hS.s1,hS.s2,hS.s3,hS.s4⟩ (g - q.delay) k;have h2:=gH hS l (max g x.t) true;simp only [List.length_cons,List.length_append];omega
structure PtsR (w:World) (pv:Value) (vs:List Value) (M:List (List Ev)):Prop where
 row:bK w pv 1 M.length vs
 len:vs.length=M.length
 each:∀ (i:Nat) (v:Value) (l:List Ev),vs[i]?=some v→M[i]?=some l→bK w v 7 l.length (rowOf eC l)
theorem dz {w w':World} {pv:Value} {vs:List Value} {M:List (List Ev)} (h:PtsR w pv vs M) (hb:Below w.heap.size w w'):PtsR w' pv vs M:=⟨aA h.row hb,h.len,fun i v l h1 h2=>aA (h.each i v l h1 h2) hb⟩
theorem ej (q:Qy) (l:List Ev) (M:List (List Ev)):kj q (l :: M)=partC q 0 false l++kj q M:=by simp [kj]
def jK (M:List (List Ev)):Nat:=(M.map List.length).sum
theorem di (l:List Ev) (M:List (List Ev)):jK (l :: M)=l.length+jK M:=by simp [jK]
theorem evsN_40:∀ (M:List (List Ev)),(∀ l∈M,l.length≤40)→jK M≤40 * M.length
 | [],_=>by simp [jK]
 | l :: M,h=>by
  rw [di,List.length_cons];have h1:=h l (by simp);have h2:=evsN_40 M (fun x hx=>h x (by simp [hx]));omega
theorem ei (q:Qy) (l:List Ev) (M:List (List Ev)):mu q (l :: M)=partN q 0 false l+mu q M:=by simp [mu]
theorem answer_gen (va vw vb pv:Value) (q:Qy) (ps:List (AgQ×Value)) (vs:List Value) (M:List (List Ev)) (W:World) (h:QyG W va vw vb q ps) (hc:chkQ q=0) (hM:PtsR W pv vs M) (hm3:M.length≤3) (hml:jK M≤120) :
  Calls Tryz.prog 21 #[qyV va vw vb q,pv] W fun e w'=>∃ u os tbl,e=.returned (.tuple #[u,.int .i64 (mu q M:Nat)])∧PosR W.heap.size w' u os∧os.map el=tbl.map eT∧OfT (q.aggs.map AgQ.kind) (kj q M) tbl∧Below W.heap.size W w':=by
 have hql:q.aggs.length=ps.length:=by rw [← h.qa];simp
 have h4:ps.length≤4:=by have:=(gR hc).n4;omega
 have hn:=pT hc;have hkd:=pR hc;have hS:=lI hc;have ba:=aj W (.cells #[va,vw,vb,Value.int .i64 q.size,Value.int .i64 q.slide,Value.int .i64 q.delay,Value.int .i64 q.late] 28);have CK:=ip va vw vb q ps _ (aR h ba);rw [hc] at CK;unfold qyV at CK ⊢;obtain ⟨ao,cap,rfl⟩:=am h.ag.row;obtain ⟨a2,c2,rfl⟩:=am h.wh;obtain ⟨a3,c3,rfl⟩:=am h.by_;obtain ⟨ap,cp,rfl⟩:=am hM.row;have CKH:=aa CK;have BQ:=aa (ay W [Value.slice ao ps.length cap,Value.slice a2 q.wh.length c2,Value.slice a3 q.bys.length c3,Value.int .i64 q.size,Value.int .i64 q.slide,Value.int .i64 q.delay,Value.int .i64 q.late] 28);have HBA:=aa ba;have HG:=aa h;have HM:=aa hM;have HML:=aa hml;have HN:=aa hn;have HSQ:=aa hS;have HKD:=aa hkd;have hsz:W.heap.size < (W.alloc (.cells #[Value.slice ao ps.length cap,Value.slice a2 q.wh.length c2,Value.slice a3 q.bys.length c3,Value.int .i64 q.size,Value.int .i64 q.slide,Value.int .i64 q.delay,Value.int .i64 q.late] 28)).heap.size:=BQ.out.lt;have e0:errC 0=.nilIface:=rfl;rw [e0] at CKH;clear CK ba h hM hml hn hS hkd hc e0
 go_enter Tryz.func21,Tryz.ntmps21
 go_wp2_with fail;refine CKH.out.mono ?_;rintro e w1 ⟨rfl,hb⟩;have HB1:=nxt HBA hb;have BQ1:=aa (ah BQ.out hb BQ.out.lt);have hs1:W.heap.size < w1.heap.size:=BQ1.out.lt;have HB2:Hid (Below W.heap.size W (w1.alloc (.cells #[.slice none 0 0] 66))):=HB1.out.alloc HB1.out.size _;have BT2:=aa (ay w1 [.slice none 0 0] 66);have TW:Hid (TabW W w1.heap.size W.heap.size (.slice ao ps.length cap) (.slice a2 q.wh.length c2) (.slice a3 q.bys.length c3) q ps [] (w1.alloc (.cells #[.slice none 0 0] 66))) :=
  ⟨⟨.slice none 0 0,[],BT2.out,⟨⟨rfl,.inl ⟨rfl,rfl⟩⟩,fun p hp=>by simp at hp⟩,ofT_nil _,fun k hk=>by simp [Value.ownBlock] at hk,fun p hp=>by simp at hp⟩,fun d hd=>by simp at hd,ah BQ1.out (aj w1 _) BQ1.out.lt,HB2.out⟩
 have hal:=aj w1 (.cells #[.slice none 0 0] 66);have PT:=aa (put_any W w1.heap.size W.heap.size (.slice ao ps.length cap) (.slice a2 q.wh.length c2) (.slice a3 q.bys.length c3) q ps (by omega) (by omega) HG.out h4 HKD.out);have hlt2:w1.heap.size < (w1.alloc (.cells #[.slice none 0 0] 66)).heap.size:=BT2.out.lt;clear hb HBA BQ BQ1 HB1 HB2 BT2 hsz CKH;go_wp2_with fail;generalize hbt:w1.heap.size=bt at *;generalize w1.alloc (.cells #[.slice none 0 0] 66)=w2 at *
 go_loopw [8,17] (fun n i wr=>∃ (m N:Nat) (C:List Ct),m≤M.length∧N+4 * jK (M.drop m)≤480∧n=.int .i64 N∧i=.int .i64 m∧Hid (TabW W bt W.heap.size (.slice ao ps.length cap) (.slice a2 q.wh.length c2) (.slice a3 q.bys.length c3) q ps C wr)∧Hid (C++kj q (M.drop m)=kj q M)∧Hid (N+mu q (M.drop m)=mu q M)∧C.length+4 * jK (M.drop m)≤480) (fun _ i _=>M.length - (intOf i).toNat)
 case atStart=>exact ⟨0,0,[],Nat.zero_le _,by have:=HML.out;simpa using (by omega:4 * jK M≤480),rfl,rfl,TW,by show _=_;simp,by show _=_;simp,by have:=HML.out;simpa using (by omega:4 * jK M≤480)⟩
 case round =>
  clear TW;obtain ⟨m,N,C,hm,hN,rfl,rfl,HR,HC,HNN,hcl⟩:=hrel
  by_cases hlt:m < M.length
  ·have hMr:=dz HM.out HR.out.old;obtain ⟨g,off,v,hao,hv,y0,z1,z2,z3⟩:=cL hMr.row m hlt;subst hao;have hrl:=HM.out.each m v M[m] hv (List.getElem?_eq_getElem hlt);have hdr:M.drop m=M[m] :: M.drop (m+1):=List.drop_eq_getElem_cons hlt;rw [hdr,ej] at HC;rw [hdr,ei] at HNN;rw [hdr,di] at hN hcl;clear hdr hv hMr;generalize M[m]=l at *;obtain ⟨al,cl,rfl⟩:=am hrl;unfold maxLen at z2;have hpc:=gH HSQ.out l 0 false;have BT:=aa (btake_any (TabW W bt W.heap.size (.slice ao ps.length cap) (.slice a2 q.wh.length c2) (.slice a3 q.bys.length c3) q ps) (fun k=>k=bt) (.slice ao ps.length cap) (.slice a2 q.wh.length c2) (.slice a3 q.bys.length c3) (.slice al l.length cl) q ps l _ _ C wr
    (fun w' hk=>by
     have hb9:Below W.heap.size W w':=HR.out.old.trans (aL hk HR.out.old.size (fun k e=>by omega));exact ⟨aR HG.out hb9,aA hrl hb9⟩) h4 HN.out HSQ.out PT.out HR.out (fun k e=>by
     obtain ⟨tv,tbl,h1,-⟩:=HR.out.tb;rw [e];exact h1.lt) (by omega))
   unfold qyV at BT;have BQr:=HR.out.qx;have q0:wr.cell? ⟨W.heap.size,0,none⟩=some (Value.slice ao ps.length cap):=BQr.c 0 (by simp);have q1:wr.cell? ⟨W.heap.size,1,none⟩=some (Value.slice a2 q.wh.length c2):=BQr.c 1 (by simp);have q2:wr.cell? ⟨W.heap.size,2,none⟩=some (Value.slice a3 q.bys.length c3):=BQr.c 2 (by simp);have q3:wr.cell? ⟨W.heap.size,3,none⟩=some (Value.int .i64 q.size):=BQr.c 3 (by simp);have q4:wr.cell? ⟨W.heap.size,4,none⟩=some (Value.int .i64 q.slide):=BQr.c 4 (by simp);have q5:wr.cell? ⟨W.heap.size,5,none⟩=some (Value.int .i64 q.delay):=BQr.c 5 (by simp);have q6:wr.cell? ⟨W.heap.size,6,none⟩=some (Value.int .i64 q.late):=BQr.c 6 (by simp);have lq:=BQr.lt;generalize partC q 0 false l=TC at *;generalize partN q 0 false l=TN at *;clear BQr hrl;go_wp2_with fail;refine BT.out.mono ?_;rintro e w3 ⟨rfl,hr3,-⟩;have HR3:=aa hr3;clear hr3 BT HR q0 q1 q2 q3 q4 q5 q6;go_wp2_with fail;go_roundw
   case rel=>exact ⟨m+1,N+TN,C++TC,by omega,by omega,by go_num,by go_num,HR3,by show _=_;rw [List.append_assoc];exact HC.out,by have:=HNN.out;show _=_;omega,by rw [List.length_append];omega⟩
   case measure=>simp [intOf];omega
  ·have hme:m=M.length:=by omega
   subst hme;have E1:C=kj q M:=by
    have:=HC.out
    rw [List.drop_length] at this
    simpa [kj] using this
   have E2:N=mu q M:=by
    have:=HNN.out
    rw [List.drop_length] at this
    simpa [mu] using this
   rw [← E2];obtain ⟨tv,tbl,h1,h2,h3,h5,h6⟩:=HR.out.tb;obtain ⟨at_,ct,rfl⟩:=aF h2.row;have hkl:(q.aggs.map AgQ.kind).length=ps.length:=by rw [List.length_map,hql]
   have hkk2:∀ x∈q.aggs.map AgQ.kind,1≤x∧x≤5:=fun x hx=>by
    obtain ⟨a,ha,rfl⟩:=List.mem_map.1 hx;exact HKD.out a ha
   have OU:=aa (outs_any tbl _ wr h2 (by have:=h3.few;omega) (fun p hp=>by
    have ha:=(h3.acc p hp).2.1;rw [ha];exact ⟨by rw [jz _ _ (fun c hc=>by rw [hkl];exact HR.out.vs c (List.mem_filter.1 hc).1)];omega,fun a h9=>⟨(iH _ hkk2 _ a h9).1,(iH _ hkk2 _ a h9).2.1⟩⟩))
   have y0:wr.cell? ⟨bt,0,none⟩=some (.slice at_ tbl.length ct):=h1.c 0 (by simp);have lt_:=h1.lt;rw [← E1];have H3:=aa h3;have HOLD:=aa HR.out.old;clear h1 h2 h5 h6 HR h3;go_wp2_with fail;refine OU.out.mono ?_;rintro e w3 ⟨u,os,rfl,hp,ho,hb⟩;have HP3:=aa hp;have HO3:=aa ho;have HB3:=nxt HOLD hb;have hle:=HOLD.out.size;obtain ⟨au,cu,rfl⟩:=ax hp.row;clear hp ho hb OU;go_wp2_with fail;refine bodyPost_ret (results_tmp2 rfl _ _ _) rfl ?_;exact ⟨_,os,tbl,rfl,⟨aK HP3.out.row hle,fun o h9=>aK (HP3.out.vs o h9) hle⟩,HO3.out,by rw [← E1];exact H3.out,HB3.out⟩
def endG:Int→Bool→List Ev→Int×Bool
 | g,k,[]=>(g,k)
 | g,k,x :: l=>if evC x≠0 then endG g k l else endG (max g x.t) true l
theorem ii (q:Qy) (g:Int) (k:Bool) (x:Ev) (l:List Ev):partC q g k (x :: l)=if evC x≠0 then partC q g k l else takeC q x (g - q.delay) k++partC q (max g x.t) true l:=rfl
theorem gC (g:Int) (k:Bool) (x:Ev) (l:List Ev):endG g k (x :: l)=if evC x≠0 then endG g k l else endG (max g x.t) true l:=rfl
theorem iT (q:Qy) (m:List Ev):∀ (l:List Ev) (g:Int) (k:Bool),partC q g k (l++m)=partC q g k l++partC q (endG g k l).1 (endG g k l).2 m
 | [],g,k=>by simp [partC,endG]
 | x :: l,g,k=>by
  rw [List.cons_append,ii,ii,gC]
  by_cases h:evC x≠0
  ·rw [if_pos h,if_pos h,if_pos h];exact iT q m l g k
  ·rw [if_neg h,if_neg h,if_neg h,List.append_assoc,iT q m l (max g x.t) true]
def ew (a:Int) (l:List Ev):Int:=l.foldl (fun b x=>max b x.t) a
theorem endG_known:∀ (l:List Ev) (g:Int),(∀ x∈l,evC x=0)→(endG g true l).2=true
 | [],g,_=>rfl
 | x :: l,g,hx=>by
  have h0:¬ (evC x≠0):=by have:=hx x (by simp);omega
  unfold endG;rw [if_neg h0];exact endG_known l _ (fun y hy=>hx y (by simp [hy]))
theorem endG_some {l:List Ev} {g:Int} {k:Bool} (hx:∀ x∈l,evC x=0) (h:l≠[]):(endG g k l).2=true:=by
 cases l with
 | nil=>exact absurd rfl h
 | cons x l =>
  have h0:¬ (evC x≠0):=by have:=hx x (by simp);omega
  unfold endG;rw [if_neg h0];exact endG_known l _ (fun y hy=>hx y (by simp [hy]))
theorem farL_bound:∀ (l:List Ev) (a:Int),(∀ x∈l,evC x=0)→a≤ew a l∧ew a l≤max a 9999
 | [],a,_=>by simp [ew];omega
 | x :: l,a,hx=>by
  have h0:=hx x (by simp);obtain ⟨-,t0,t1⟩:=kJ h0
  have:=farL_bound l (max a x.t) (fun y hy=>hx y (by simp [hy]))
  show a≤ew (max a x.t) l∧ew (max a x.t) l≤_
  omega
theorem farL_some {l:List Ev} (h:0≤ew (-1) l):l≠[]:=by
 intro e;subst e
 simp [ew] at h
def qj (b far:Int) (x:Int×Int×Int×List V2):Bool:=decide (x.1+b≤far)
theorem kz {q:Qy} (hS:QyS q):∀ (l:List Ev) (g:Int) (k:Bool),∀ c∈partC q g k l,-1000≤c.st∧c.st≤9999
 | [],g,k,c,hc=>by simp [partC] at hc
 | x :: l,g,k,c,hc=>by
  unfold partC at hc
  by_cases h:evC x≠0
  ·rw [if_pos h] at hc;exact kz hS l g k c hc
  ·rw [if_neg h] at hc;have h0:evC x=0:=by omega
   obtain ⟨-,t0,t1⟩:=kJ h0
   rcases List.mem_append.1 hc with hc | hc
   ·unfold takeC at hc
    split at hc
    ·unfold ig at hc;obtain ⟨st,h1,rfl⟩:=List.mem_map.1 hc;exact mm ⟨t0,t1,hS.s1,hS.s2,hS.s3,hS.s4⟩ st (List.mem_filter.1 h1).1
    ·simp at hc
   ·exact kz hS l _ true c hc
theorem pd {q:Qy} (hS:QyS q) {M:List (List Ev)}:∀ c∈kj q M,-1000≤c.st∧c.st≤9999:=fun c hc=>by
 obtain ⟨l,-,h⟩:=List.mem_flatMap.1 hc;exact kz hS l 0 false c h
theorem ofT_in {ks:List Int} {cs:List Ct} {ps:List Pn} (h:OfT ks cs ps) (hc:∀ c∈cs,-1000≤c.st∧c.st≤9999):∀ p∈ps,-1000≤p.st∧p.st≤9999:=fun p hp=>by
 obtain ⟨c,h1⟩:=List.exists_mem_of_ne_nil _ (h.acc p hp).2.2;obtain ⟨h2,h3⟩:=List.mem_filter.1 h1;have h4:c.st=p.st:=(by simpa using h3:c.st=p.st∧_).1;rw [← h4];exact hc c h2
theorem os_in {q:Qy} (hS:QyS q) {ks:List Int} {M:List (List Ev)} {os:List Po} {tbl:List Pn} (ho:os.map el=tbl.map eT) (hot:OfT ks (kj q M) tbl):∀ o∈os,-1000≤o.st∧o.st≤9999:=fun o h=>by
 have hm:el o∈tbl.map eT:=by rw [← ho];exact List.mem_map_of_mem h
 obtain ⟨p,hp,e⟩:=List.mem_map.1 hm
 have:=ofT_in hot (pd hS) p hp
 have e4:p.st=o.st:=congrArg (fun x=>x.1) e;rw [← e4];exact this
def uptoO (b far:Int) (l:List Po):List Po:=l.filter fun o=>decide (o.st+b≤far)
theorem lK (b far:Int) (l:List Po):(uptoO b far l).map el=(l.map el).filter (qj b far):=by
 unfold uptoO;rw [List.filter_map]
 rfl
theorem uptoO_snoc (b far:Int) (l:List Po) (m:Nat) (h:m < l.length):uptoO b far (l.take (m+1))=uptoO b far (l.take m)++(if l[m].st+b≤far then [l[m]] else []):=by
 unfold uptoO;rw [List.take_succ_eq_append_getElem h,List.filter_append]
 congr 1
 by_cases hp:l[m].st+b≤far <;> simp [hp]
theorem uptoO_len (b far:Int) (l:List Po):(uptoO b far l).length≤l.length:=List.length_filter_le _ _
end Go.Proofs.YtcgjflamgnjhcaaGreatDoor

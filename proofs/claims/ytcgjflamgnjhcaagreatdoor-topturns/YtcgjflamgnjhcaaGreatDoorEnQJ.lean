/- Own texts in one. Conditions: as named in each. -/
import Derived.Test.YtcgjflamgnjhcaaGreatDoorPaneDJ
import Derived.Test.YtcgjflamgnjhcaaGreatDoorChkRJ
import Derived.Test.YtcgjflamgnjhcaaGreatDoorEnAJ
set_option linter.unusedVariables false
set_option linter.unusedSimpArgs false
set_option maxRecDepth 100000
set_option maxHeartbeats 8000000
namespace Go.Proofs.YtcgjflamgnjhcaaGreatDoor
open Go.ChangeShapes Go.WideShapes Go.ChangeAt Go.RowKit
def nG (p:Pn) (c:Ct):List Rw :=
 if p.told=true∧p.ac.map acV≠(dD p.ac c.vs).map acV then [⟨true,fj p⟩,⟨false,(p.st,p.k,p.n,(dD p.ac c.vs).map acV)⟩] else []
def qv (ks:List Int) (tb:List Pn) (rows:List Rw) (c:Ct) (tb':List Pn) (rows':List Rw):Prop :=
 (∃ (j:Nat) (hj:j < tb.length) (av:Value),(tb[j].st=c.st∧tb[j].k=c.key.1∧tb[j].n=c.key.2)∧tb'=tb.set j ⟨c.st,c.key.1,c.key.2,tb[j].told,dD tb[j].ac c.vs,av⟩∧rows'=rows++nG tb[j] c) ∨
 ((∀ p∈tb,¬ (p.st=c.st∧p.k=c.key.1∧p.n=c.key.2))∧(∃ (i:Nat) (av:Value),i≤tb.length∧tb'=tb.take i++⟨c.st,c.key.1,c.key.2,false,dD (ks.map iu) c.vs,av⟩ :: tb.drop i)∧jC tb'∧rows'=rows)
def nZ (q:Qy) (lim:Option Int) (st:Int):Bool:=match lim with
 | none=>true
 | some u=>!decide (st+(q.size+q.late)≤u)
def kpt (q:Qy) (lim:Option Int) (p:Pn):Bool:=nZ q lim p.st
def qO (q:Qy) (lim:Option Int) (p:Pn):Prop:=∃ u,lim=some u∧p.st+q.size≤u
structure EnI (ks:List Int) (q:Qy) (cs:List Ct) (lim:Option Int) (tb:List Pn) (rows:List Rw) (V:List Pn):Prop where
 ofv:OfV ks cs V
 tb:tb=V.filter (kpt q lim)
 told:∀ p∈V,p.told=true→qO q lim p
 gone:∀ p∈V,kpt q lim p=false→p.told=true
 net:qt rows V
theorem enI_nil (ks:List Int) (q:Qy):EnI ks q [] none [] [] []:=⟨ofV_nil ks,rfl,by simp,by simp,netI_nil⟩
theorem updR_mem {x y:Pn} {l:List Pn}:y∈nO x l↔(y=x∧∃ p∈l,dv p=dv x)∨(y∈l∧dv y≠dv x):=by
 unfold nO;rw [List.mem_map]
 constructor
 ·rintro ⟨p,hp,e⟩
  by_cases hk:dv p=dv x
  ·rw [if_pos hk] at e;exact .inl ⟨e.symm,p,hp,hk⟩
  ·rw [if_neg hk] at e;subst e;exact .inr ⟨hp,hk⟩
 ·rintro (⟨e,p,hp,hk⟩ | ⟨hy,hk⟩)
  ·exact ⟨p,hp,by rw [if_pos hk,e]⟩
  ·exact ⟨y,hy,by rw [if_neg hk]⟩
theorem ff {p x:Pn} (h:dv p=dv x):p.st=x.st∧p.k=x.k∧p.n=x.n:=by
 unfold dv at h
 simpa only [Prod.mk.injEq] using h
theorem kP {V:List Pn} (h:jC V) {p r:Pn} (hp:p∈V) (hr:r∈V) (e:dv p=dv r):p=r:=by
 obtain ⟨i,hi,rfl⟩:=List.mem_iff_getElem.1 hp;obtain ⟨j,hj,rfl⟩:=List.mem_iff_getElem.1 hr
 have:=kK h (List.getElem?_eq_getElem hi) (List.getElem?_eq_getElem hj) (ff e)
 subst this
 rfl
theorem ms {q:Qy} {lim:Option Int} {p x:Pn} (h:dv p=dv x):kpt q lim p=kpt q lim x:=by
 unfold kpt;rw [(ff h).1]
theorem oL {ks:List Int} {q:Qy} {cs:List Ct} {lim:Option Int} {tb tb':List Pn} {rows rows':List Rw} {V:List Pn} (h:EnI ks q cs lim tb rows V) (c:Ct) (hk:nZ q lim c.st=true) (ha:qv ks tb rows c tb' rows') :
  ∃ V',EnI ks q (cs++[c]) lim tb' rows' V':=by
 have hRV:V.Pairwise plt:=h.ofv.rise;have hRT:jC tb:=by rw [h.tb];exact hRV.filter _
 rcases ha with ⟨j,hj,av,he,rfl,rfl⟩ | ⟨hno,⟨i,av,hi,rfl⟩,hR,rfl⟩
 ·have hpt:tb[j]∈tb:=List.getElem_mem hj;have hpV:tb[j]∈V:=by
   have:tb[j]∈V.filter (kpt q lim):=h.tb ▸ hpt;exact (List.mem_filter.1 this).1
  generalize hpe:tb[j]=p at *;obtain ⟨x,hx⟩:∃ x:Pn,x=⟨c.st,c.key.1,c.key.2,p.told,dD p.ac c.vs,av⟩:=⟨_,rfl⟩;rw [← hx];have hkx:dv p=dv x:=by rw [hx];unfold dv;rw [he.1,he.2.1,he.2.2]
  have hset:tb.set j x=nO x tb:=set_updR hRT hj (by rw [hpe];exact hkx);have hst:x.st=c.st∧x.k=c.key.1∧x.n=c.key.2:=by rw [hx];exact ⟨rfl,rfl,rfl⟩
  have hac:=h.ofv.acc p hpV;have hkc:kpt q lim x=true:=by unfold kpt;rw [hst.1];exact hk
  refine ⟨nO x V,⟨updR_rise hRV,fun y hy=>?_,fun d hd=>?_,by have:=h.ofv.few;simp [nO];omega⟩,?_,fun y hy ht=>?_,fun y hy hg=>?_,?_⟩
  ·rcases updR_mem.1 hy with ⟨e,-⟩ | ⟨hyV,hne⟩
   ·rw [e,hst.1,hst.2.1,hst.2.2,kQ,oO _ _ _ c ⟨rfl,rfl,rfl⟩];refine ⟨?_,by simp⟩;rw [gS,← he.1,← he.2.1,← he.2.2,← hac.1,hx]
   ·obtain ⟨a1,a2⟩:=h.ofv.acc y hyV;rw [kQ,mZ _ _ _ c (fun e=>hne (by unfold dv;rw [hst.1,hst.2.1,hst.2.2,e.1,e.2.1,e.2.2])),List.append_nil];exact ⟨a1,a2⟩
  ·rcases List.mem_append.1 hd with hd | hd
   ·obtain ⟨r,hr,e⟩:=h.ofv.all d hd
    by_cases hrk:dv r=dv x
    ·have:=ff hrk
     exact ⟨x,updR_mem.2 (.inl ⟨rfl,r,hr,hrk⟩),by rw [← this.1];exact e.1,by rw [← this.2.1];exact e.2.1,by rw [← this.2.2];exact e.2.2⟩
    ·exact ⟨r,updR_mem.2 (.inr ⟨hr,hrk⟩),e⟩
   ·rw [List.mem_singleton.1 hd];exact ⟨x,updR_mem.2 (.inl ⟨rfl,p,hpV,hkx⟩),hst⟩
  ·rw [hset,filter_updR (kpt q lim) (fun r hr=>ms hr),← h.tb]
  ·rcases updR_mem.1 hy with ⟨e,-⟩ | ⟨hyV,-⟩
   ·have:p.told=true:=by rw [e,hx] at ht;exact ht
    obtain ⟨u,e1,e2⟩:=h.told p hpV this;exact ⟨u,e1,by rw [e,hst.1,← he.1];exact e2⟩
   ·exact h.told y hyV ht
  ·rcases updR_mem.1 hy with ⟨e,-⟩ | ⟨hyV,-⟩
   ·rw [e,hkc] at hg;cases hg
   ·exact h.gone y hyV hg
  ·have hox:fj x=(p.st,p.k,p.n,(dD p.ac c.vs).map acV):=by rw [hx];unfold fj;rw [he.1,he.2.1,he.2.2]
   have hmem:∀ z,(∃ r∈nO x V,r.told=true∧fj r=z)↔(x.told=true∧fj x=z)∨((∃ r∈V,r.told=true∧fj r=z)∧dt z≠dv x):=fun z=>by
    constructor
    ·rintro ⟨r,hr,h1,h2⟩
     rcases updR_mem.1 hr with ⟨e,-⟩ | ⟨hrV,hne⟩
     ·rw [e] at h1 h2;exact .inl ⟨h1,h2⟩
     ·exact .inr ⟨⟨r,hrV,h1,h2⟩,by rw [← h2,eh];exact hne⟩
    ·rintro (⟨h1,h2⟩ | ⟨⟨r,hr,h1,h2⟩,hne⟩)
     ·exact ⟨x,updR_mem.2 (.inl ⟨rfl,p,hpV,hkx⟩),h1,h2⟩
     ·exact ⟨r,updR_mem.2 (.inr ⟨hr,by rw [← eh,h2];exact hne⟩),h1,h2⟩
   have htx:x.told=p.told:=by rw [hx]
   have hold:∀ z,(∃ r∈V,r.told=true∧fj r=z)→dt z=dv x→z=fj p:=fun z ⟨r,hr,h1,h2⟩ e=>by
    rw [← h2] at e ⊢;rw [kP hRV hr hpV (by rw [← eh,e,hkx])]
   unfold nG
   by_cases hrr:p.told=true∧p.ac.map acV≠(dD p.ac c.vs).map acV
   ·rw [if_pos hrr,← hox];refine netI_turn h.net (by rw [eh,eh,hkx]) ⟨p,hpV,hrr.1,rfl⟩ (fun z=>?_);rw [hmem z,eh,← hkx]
    constructor
    ·rintro (⟨-,e⟩ | e)
     ·exact .inl e.symm
     ·exact .inr e
    ·rintro (e | e)
     ·exact .inl ⟨by rw [htx];exact hrr.1,e.symm⟩
     ·exact .inr e
   ·rw [if_neg hrr,List.append_nil];refine lE h.net (fun z=>?_);rw [hmem z]
    by_cases htp:p.told=true
    ·have heq:p.ac.map acV=(dD p.ac c.vs).map acV:=Classical.byContradiction fun e=>hrr ⟨htp,e⟩
     have hoe:fj x=fj p:=by rw [hox,← heq];rfl
     constructor
     ·intro hz
      by_cases hzk:dt z=dv x
      ·exact .inl ⟨by rw [htx];exact htp,by rw [hoe];exact (hold z hz hzk).symm⟩
      ·exact .inr ⟨hz,hzk⟩
     ·rintro (⟨-,e⟩ | ⟨hz,-⟩)
      ·exact ⟨p,hpV,htp,by rw [← hoe];exact e⟩
      ·exact hz
    ·constructor
     ·rintro ⟨r,hr,h1,h2⟩;refine .inr ⟨⟨r,hr,h1,h2⟩,fun e=>?_⟩;rw [← h2,eh] at e;rw [kP hRV hr hpV (by rw [e,hkx])] at h1;exact htp h1
     ·rintro (⟨e,-⟩ | ⟨hz,-⟩)
      ·rw [htx] at e;exact absurd e htp
      ·exact hz
 ·obtain ⟨x,hx⟩:∃ x:Pn,x=⟨c.st,c.key.1,c.key.2,false,dD (ks.map iu) c.vs,av⟩:=⟨_,rfl⟩;rw [← hx] at hR ⊢;have hst:x.st=c.st∧x.k=c.key.1∧x.n=c.key.2:=by rw [hx];exact ⟨rfl,rfl,rfl⟩
  have hkc:kpt q lim x=true:=by unfold kpt;rw [hst.1];exact hk
  have hnV:∀ p∈V,dv p≠dv x:=fun p hp e=>by
   have hpt:p∈tb:=by rw [h.tb];exact List.mem_filter.2 ⟨hp,by rw [ms e];exact hkc⟩
   have:=ff e
   exact hno p hpt ⟨this.1.trans hst.1,this.2.1.trans hst.2.1,this.2.2.trans hst.2.2⟩
  have hz:ofK c.st c.key.1 c.key.2 cs=[]:=by
   unfold ofK;rw [List.filter_eq_nil_iff];intro d hd;simp only [decide_eq_true_eq];intro e;obtain ⟨p,hp,e1,e2,e3⟩:=h.ofv.all d hd;exact hnV p hp (by unfold dv;rw [hst.1,hst.2.1,hst.2.2,e1,e2,e3,e.1,e.2.1,e.2.2])
  have htx:x.told=false:=by rw [hx]
  refine ⟨nM x V,⟨fD x V hRV hnV,fun y hy=>?_,fun d hd=>?_,by have:=h.ofv.few;rw [na];simp;omega⟩,?_,fun y hy ht=>?_,fun y hy hg=>?_,lE h.net (fun z=>?_)⟩
  ·rcases (cT x y V).1 hy with e | hyV
   ·rw [e,hst.1,hst.2.1,hst.2.2,kQ,hz,oO _ _ _ c ⟨rfl,rfl,rfl⟩,hx];exact ⟨rfl,by simp⟩
   ·obtain ⟨a1,a2⟩:=h.ofv.acc y hyV;have hne:=hnV y hyV;rw [kQ,mZ _ _ _ c (fun e=>hne (by unfold dv;rw [hst.1,hst.2.1,hst.2.2,e.1,e.2.1,e.2.2])),List.append_nil];exact ⟨a1,a2⟩
  ·rcases List.mem_append.1 hd with hd | hd
   ·obtain ⟨r,hr,e⟩:=h.ofv.all d hd;exact ⟨r,(cT x r V).2 (.inr hr),e⟩
   ·rw [List.mem_singleton.1 hd];exact ⟨x,(cT x x V).2 (.inl rfl),hst⟩
  ·rw [ins_is hR,filter_insR hRV hnV (kpt q lim) hkc,← h.tb]
  ·rcases (cT x y V).1 hy with e | hyV
   ·rw [e,htx] at ht;cases ht
   ·exact h.told y hyV ht
  ·rcases (cT x y V).1 hy with e | hyV
   ·rw [e,hkc] at hg;cases hg
   ·exact h.gone y hyV hg
  ·constructor
   ·rintro ⟨r,hr,h1,h2⟩;exact ⟨r,(cT x r V).2 (.inr hr),h1,h2⟩
   ·rintro ⟨r,hr,h1,h2⟩
    rcases (cT x r V).1 hr with e | hrV
    ·rw [e,htx] at h1;cases h1
    ·exact ⟨r,hrV,h1,h2⟩
theorem bR (size u:Int) (p:Pn):dv (cP size u p)=dv p∧fj (cP size u p)=fj p∧(cP size u p).st=p.st∧(cP size u p).ac=p.ac:=by
 unfold cP
 split <;> exact ⟨rfl,rfl,rfl,rfl⟩
theorem dX (size u:Int) (p:Pn):(cP size u p).told=(p.told || decide (p.st+size≤u)):=by
 unfold cP dy;cases h:p.told <;> by_cases h2:p.st+size≤u <;> simp [h,h2]
def dG (q:Qy) (u:Int) (tb:List Pn):List Rw:=(tb.filter (dy q.size u)).map fun p=>⟨false,fj p⟩
def lS (q:Qy) (u:Int) (tb:List Pn):List Pn:=(tb.map (cP q.size u)).filter (stays (q.size+q.late) u)
theorem enI_tell {ks:List Int} {q:Qy} {cs:List Ct} {lim:Option Int} {tb:List Pn} {rows:List Rw} {V:List Pn} (h:EnI ks q cs lim tb rows V) (u:Int) (hle:∀ u0,lim=some u0→u0≤u) (hl0:0≤q.late) :
  EnI ks q cs (some u) (lS q u tb) (rows++dG q u tb) (V.map (cP q.size u))∧∀ p∈V.map (cP q.size u),qO q (some u) p→p.told=true:=by
 have hRV:V.Pairwise plt:=h.ofv.rise;have hdue:∀ p∈V,dy q.size u p=true→kpt q lim p=true:=fun p hp hd=>by
  cases hk:kpt q lim p with
  | true=>rfl
  | false =>
   have:=h.gone p hp hk
   unfold dy at hd;rw [this] at hd;cases hd
 have hdt:tb.filter (dy q.size u)=V.filter (dy q.size u):=by
  rw [h.tb,List.filter_filter];refine List.filter_congr fun p hp=>?_
  cases hd:dy q.size u p with
  | false=>simp
  | true=>simp [hdue p hp hd]
 refine ⟨⟨⟨?_,fun y hy=>?_,fun d hd=>?_,by simpa using h.ofv.few⟩,?_,fun y hy ht=>?_,fun y hy hg=>?_,?_⟩,fun y hy he=>?_⟩
 ·refine List.pairwise_map.2 (hRV.imp fun {a b} hab=>?_);have ea:=ff (bR q.size u a).1;have eb:=ff (bR q.size u b).1;rw [ea.1,ea.2.1,ea.2.2,eb.1,eb.2.1,eb.2.2];exact hab
 ·obtain ⟨p,hp,rfl⟩:=List.mem_map.1 hy;have e:=ff (bR q.size u p).1;rw [(bR q.size u p).2.2.2,e.1,e.2.1,e.2.2];exact h.ofv.acc p hp
 ·obtain ⟨p,hp,e⟩:=h.ofv.all d hd;have e1:=ff (bR q.size u p).1;exact ⟨_,List.mem_map_of_mem hp,by rw [e1.1,e1.2.1,e1.2.2];exact e⟩
 ·unfold lS;rw [h.tb,List.filter_map,List.filter_map,List.filter_filter]
  congr 1
  refine List.filter_congr fun p hp=>?_
  simp only [Function.comp];have e1:stays (q.size+q.late) u (cP q.size u p)=kpt q (some u) p:=by
   unfold stays kpt nZ;rw [(bR q.size u p).2.2.1]
  have e2:kpt q (some u) (cP q.size u p)=kpt q (some u) p:=ms (bR q.size u p).1;rw [e1,e2];cases hk:kpt q (some u) p with
  | false=>simp
  | true =>
   have:kpt q lim p=true:=by
    cases hl:lim with
    | none=>rfl
    | some u0 =>
     have:=hle u0 hl
     unfold kpt nZ at hk ⊢;simp only [Bool.not_eq_true',decide_eq_false_iff_not] at hk ⊢;omega
   rw [this]
   rfl
 ·obtain ⟨p,hp,rfl⟩:=List.mem_map.1 hy;rw [dX] at ht;refine ⟨u,rfl,?_⟩;rw [(bR q.size u p).2.2.1]
  rcases Bool.or_eq_true_iff.1 ht with ht | ht
  ·obtain ⟨u0,e1,e2⟩:=h.told p hp ht
   have:=hle u0 e1
   omega
  ·exact of_decide_eq_true ht
 ·obtain ⟨p,hp,rfl⟩:=List.mem_map.1 hy;rw [dX];unfold kpt nZ at hg;rw [(bR q.size u p).2.2.1] at hg;simp only [Bool.not_eq_false',decide_eq_true_eq] at hg;rw [decide_eq_true (by omega)]
  simp
 ·obtain ⟨out,n1,n2,n3⟩:=h.net;have hr:dG q u tb=((V.filter (dy q.size u)).map fj).map (Rw.mk false):=by
   unfold dG;rw [hdt,List.map_map]
   rfl
  have hk2:(((V.filter (dy q.size u)).map fj).map dt).Nodup:=by
   rw [List.map_map]
   show List.Pairwise _ _
   refine List.pairwise_map.2 ((hRV.filter _).imp fun {a b} hab=>?_);intro e
   have:=ff (show dv a=dv b from e)
   unfold plt lexlt at hab;omega
  have hk3:∀ x∈(V.filter (dy q.size u)).map fj,dt x ∉ out.map dt:=fun x hx hm=>by
   obtain ⟨p,hp,rfl⟩:=List.mem_map.1 hx;obtain ⟨hpV,hpd⟩:=List.mem_filter.1 hp;obtain ⟨y,hy,e⟩:=List.mem_map.1 hm;obtain ⟨r,hr,h1,h2⟩:=(n3 y).1 hy;rw [← h2] at e
   have:=kP hRV hr hpV e
   rw [this] at h1;unfold dy at hpd;rw [h1] at hpd;cases hpd
  refine ⟨out++(V.filter (dy q.size u)).map fj,?_,?_,fun x=>?_⟩
  ·rw [netL_app,n1,hr];exact netL_say _ out n2 hk2 hk3
  ·rw [List.map_append];refine List.nodup_append.2 ⟨n2,hk2,fun a ha b hb e=>?_⟩;obtain ⟨y,hy,e1⟩:=List.mem_map.1 hb;exact hk3 y hy (by rw [e1,← e];exact ha)
  ·rw [List.mem_append,n3 x]
   constructor
   ·rintro (⟨p,hp,h1,h2⟩ | hx)
    ·exact ⟨_,List.mem_map_of_mem hp,by rw [dX,h1];rfl,by rw [(bR q.size u p).2.1];exact h2⟩
    ·obtain ⟨p,hp,rfl⟩:=List.mem_map.1 hx;obtain ⟨hpV,hpd⟩:=List.mem_filter.1 hp;refine ⟨_,List.mem_map_of_mem hpV,?_,(bR q.size u p).2.1⟩;unfold dy at hpd;rw [dX,(Bool.and_eq_true_iff.1 hpd).2]
     simp
   ·rintro ⟨y,hy,h1,h2⟩;obtain ⟨p,hp,rfl⟩:=List.mem_map.1 hy;rw [(bR q.size u p).2.1] at h2
    by_cases ht:p.told=true
    ·exact .inl ⟨p,hp,ht,h2⟩
    ·refine .inr (List.mem_map.2 ⟨p,List.mem_filter.2 ⟨hp,?_⟩,h2⟩);rw [dX] at h1;unfold dy;cases hpt:p.told with
     | true=>exact absurd hpt ht
     | false =>
      rw [hpt] at h1
      simpa using h1
 ·obtain ⟨p,hp,rfl⟩:=List.mem_map.1 hy;obtain ⟨u0,e1,e2⟩:=he;cases e1;rw [(bR q.size u p).2.2.1] at e2;rw [dX,decide_eq_true e2]
  simp
theorem chkAs_zero:∀ {l:List AgQ},chkAs l=0→∀ a∈l,chkA a=0
 | [],_,a,h=>by simp at h
 | b :: l,h,a,ha=>by
  unfold chkAs at h
  by_cases hb:chkA b=0
  ·rw [if_neg (by simp [hb])] at h
   rcases List.mem_cons.1 ha with rfl | ha
   ·exact hb
   ·exact chkAs_zero h a ha
  ·rw [if_pos hb] at h;exact absurd h hb
theorem gP {l:List Nd} (h:(cL l).2=0):kt l=0:=by
 by_cases h9:kt l=0
 ·exact h9
 ·exfalso
  have e:(cL l).2=kt l:=by unfold cL;rw [if_pos h9]
  rw [e] at h;exact h9 h
structure OkQ (q:Qy):Prop where
 n0:0 < q.aggs.length
 n4:q.aggs.length≤4
 ag:∀ a∈q.aggs,chkA a=0
 wh:0 < q.wh.length→kt q.wh=0
 by_:0 < q.bys.length→kt q.bys=0
 s1:1≤q.size∧q.size≤1000
 s2:1≤q.slide∧q.slide≤1000
 s3:0≤q.delay∧q.delay≤1000
 s4:0≤q.late∧q.late≤1000
theorem jv {q:Qy} (h:chkQ q=0):OkQ q:=by
 unfold chkQ at h
 by_cases h1:q.aggs.length=0∨4 < q.aggs.length
 ·rw [if_pos h1] at h;exact absurd h (by decide)
 rw [if_neg h1] at h;have h2:chkAs q.aggs=0:=Classical.byContradiction fun h2=>by rw [if_pos h2] at h;exact h2 h
 rw [if_neg (by simp [h2])] at h;have h3:chkW q.wh=0:=Classical.byContradiction fun h3=>by rw [if_pos h3] at h;exact h3 h
 rw [if_neg (by simp [h3])] at h;have h4:chkB q.bys=0:=Classical.byContradiction fun h4=>by rw [if_pos h4] at h;exact h4 h
 rw [if_neg (by simp [h4])] at h;unfold ob at h
 by_cases h5:q.size < 1∨1000 < q.size∨q.slide < 1∨1000 < q.slide∨q.delay < 0∨1000 < q.delay∨q.late < 0∨1000 < q.late
 ·rw [if_pos h5] at h;exact absurd h (by decide)
 refine ⟨by omega,by omega,chkAs_zero h2,fun hp=>?_,fun hp=>?_,by omega,by omega,by omega,by omega⟩
 ·unfold chkW at h3;rw [if_neg (by omega)] at h3
  by_cases h6:(cL q.wh).2=0
  ·exact gP h6
  ·rw [if_pos h6] at h3;exact absurd h3 h6
 ·unfold chkB at h4;rw [if_neg (by omega)] at h4;exact gP h4
theorem ki {l:List Nd} (h:kt l=0):∀ n∈l,okN n=0:=fun n hn=>by
 obtain ⟨bs,hg,-⟩:=good_of_chk h;obtain ⟨i,hi,rfl⟩:=List.mem_iff_getElem.1 hn;exact (hg.2 i _ (List.getElem?_eq_getElem hi)).1
theorem qyN_of {q:Qy} (h:chkQ q=0):QyN q:=by
 have hq:=jv h;refine ⟨fun n hn=>?_,fun n hn=>?_,fun a ha n hn=>?_⟩
 ·exact ki (hq.wh (List.length_pos_of_mem hn)) n hn
 ·exact ki (hq.by_ (List.length_pos_of_mem hn)) n hn
 ·have h1:=hq.ag a ha;unfold chkA at h1
  by_cases h2:a.kind < 1∨5 < a.kind
  ·rw [if_pos h2] at h1;exact absurd h1 (by decide)
  ·rw [if_neg h2] at h1
   by_cases h3:a.kind=1
   ·rw [if_pos h3,if_pos (List.length_pos_of_mem hn)] at h1;exact absurd h1 (by decide)
   ·rw [if_neg h3] at h1
    by_cases h4:(cL a.of).2=0
    ·exact ki (gP h4) n hn
    ·rw [if_pos h4] at h1;exact absurd h1 h4
theorem qyK_of {q:Qy} (h:chkQ q=0):∀ a∈q.aggs,1≤a.kind∧a.kind≤5:=fun a ha=>by
 have h1:=(jv h).ag a ha;unfold chkA at h1
 by_cases h2:a.kind < 1∨5 < a.kind
 ·rw [if_pos h2] at h1;exact absurd h1 (by decide)
 ·omega
theorem p7 {q:Qy} (h:chkQ q=0):QyS q:=by
 have hq:=jv h;have h5:ob q=0:=by
  unfold chkQ at h
  by_cases h1:q.aggs.length=0∨4 < q.aggs.length
  ·rw [if_pos h1] at h;exact absurd h (by decide)
  rw [if_neg h1] at h;have h2:chkAs q.aggs=0:=Classical.byContradiction fun h2=>by rw [if_pos h2] at h;exact h2 h
  rw [if_neg (by simp [h2])] at h;have h3:chkW q.wh=0:=Classical.byContradiction fun h3=>by rw [if_pos h3] at h;exact h3 h
  rw [if_neg (by simp [h3])] at h;have h4:chkB q.bys=0:=Classical.byContradiction fun h4=>by rw [if_pos h4] at h;exact h4 h
  rw [if_neg (by simp [h4])] at h;exact h
 unfold ob at h5;rw [if_neg (by have:=hq.s1;have:=hq.s2;have:=hq.s3;have:=hq.s4;omega)] at h5;have h6:¬ (q.size < q.slide∨4 * q.slide < q.size):=fun h6=>by rw [if_pos h6] at h5;exact absurd h5 (by decide)
 have:=hq.s1
 have:=hq.s2
 have:=hq.s3
 have:=hq.s4
 constructor <;> omega
theorem iS {q:Qy} (hS:QyS q):∀ (l:List Ev) (g:Int) (k:Bool),(dP q g k l).length≤4 * l.length∧eK q g k l≤4 * l.length
 | [],g,k=>by simp [dP,eK]
 | x :: l,g,k=>by
  unfold dP eK
  by_cases h:evC x≠0
  ·rw [if_pos h,if_pos h]
   have:=iS hS l g k
   simp only [List.length_cons];omega
  ·rw [if_neg h,if_neg h];have h0:evC x=0:=by omega
   obtain ⟨-,t0,t1⟩:=lV h0;have h1:=lz (q:=q) (x:=x) ⟨t0,t1,hS.s1,hS.s2,hS.s3,hS.s4⟩ (g - q.delay) k;have h2:=iS hS l (max g x.t) true;simp only [List.length_cons,List.length_append];omega
structure PtsR (w:World) (pv:Value) (vs:List Value) (M:List (List Ev)):Prop where
 row:bT w pv 1 M.length vs
 len:vs.length=M.length
 each:∀ (i:Nat) (v:Value) (l:List Ev),vs[i]?=some v→M[i]?=some l→bT w v 7 l.length (rowOf gn l)
theorem fM {w w':World} {pv:Value} {vs:List Value} {M:List (List Ev)} (h:PtsR w pv vs M) (hb:Below w.heap.size w w'):PtsR w' pv vs M:=⟨aA h.row hb,h.len,fun i v l h1 h2=>aA (h.each i v l h1 h2) hb⟩
theorem eP (q:Qy) (l:List Ev) (M:List (List Ev)):nL q (l :: M)=dP q 0 false l++nL q M:=by simp [nL]
def iw (M:List (List Ev)):Nat:=(M.map List.length).sum
theorem dJ (l:List Ev) (M:List (List Ev)):iw (l :: M)=l.length+iw M:=by simp [iw]
theorem evsN_40:∀ (M:List (List Ev)),(∀ l∈M,l.length≤40)→iw M≤40 * M.length
 | [],_=>by simp [iw]
 | l :: M,h=>by
  rw [dJ,List.length_cons];have h1:=h l (by simp);have h2:=evsN_40 M (fun x hx=>h x (by simp [hx]));omega
theorem eL (q:Qy) (l:List Ev) (M:List (List Ev)):pA q (l :: M)=eK q 0 false l+pA q M:=by simp [pA]
def endG:Int→Bool→List Ev→Int×Bool
 | g,k,[]=>(g,k)
 | g,k,x :: l=>if evC x≠0 then endG g k l else endG (max g x.t) true l
theorem gZ (q:Qy) (g:Int) (k:Bool) (x:Ev) (l:List Ev):dP q g k (x :: l)=if evC x≠0 then dP q g k l else takeC q x (g - q.delay) k++dP q (max g x.t) true l:=rfl
theorem gC (g:Int) (k:Bool) (x:Ev) (l:List Ev):endG g k (x :: l)=if evC x≠0 then endG g k l else endG (max g x.t) true l:=rfl
theorem iU (q:Qy) (m:List Ev):∀ (l:List Ev) (g:Int) (k:Bool),dP q g k (l++m)=dP q g k l++dP q (endG g k l).1 (endG g k l).2 m
 | [],g,k=>by simp [dP,endG]
 | x :: l,g,k=>by
  rw [List.cons_append,gZ,gZ,gC]
  by_cases h:evC x≠0
  ·rw [if_pos h,if_pos h,if_pos h];exact iU q m l g k
  ·rw [if_neg h,if_neg h,if_neg h,List.append_assoc,iU q m l (max g x.t) true]
def em (a:Int) (l:List Ev):Int:=l.foldl (fun b x=>max b x.t) a
theorem endG_known:∀ (l:List Ev) (g:Int),(∀ x∈l,evC x=0)→(endG g true l).2=true
 | [],g,_=>rfl
 | x :: l,g,hx=>by
  have h0:¬ (evC x≠0):=by have:=hx x (by simp);omega
  unfold endG;rw [if_neg h0];exact endG_known l _ (fun y hy=>hx y (by simp [hy]))
theorem endG_some {l:List Ev} {g:Int} {k:Bool} (hx:∀ x∈l,evC x=0) (h:l≠[]):(endG g k l).2=true:=by
 cases l with
 | nil=>exact absurd rfl h
 | cons x l =>
  have h0:¬ (evC x≠0):=by have:=hx x (by simp);omega
  unfold endG;rw [if_neg h0];exact endG_known l _ (fun y hy=>hx y (by simp [hy]))
theorem farL_bound:∀ (l:List Ev) (a:Int),(∀ x∈l,evC x=0)→a≤em a l∧em a l≤max a 9999
 | [],a,_=>by simp [em];omega
 | x :: l,a,hx=>by
  have h0:=hx x (by simp);obtain ⟨-,t0,t1⟩:=lV h0
  have:=farL_bound l (max a x.t) (fun y hy=>hx y (by simp [hy]))
  show a≤em (max a x.t) l∧em (max a x.t) l≤_
  omega
theorem farL_some {l:List Ev} (h:0≤em (-1) l):l≠[]:=by
 intro e;subst e
 simp [em] at h
def uptoB (b far:Int) (x:Int×Int×Int×List V2):Bool:=decide (x.1+b≤far)
theorem kS {q:Qy} (hS:QyS q):∀ (l:List Ev) (g:Int) (k:Bool),∀ c∈dP q g k l,-1000≤c.st∧c.st≤9999
 | [],g,k,c,hc=>by simp [dP] at hc
 | x :: l,g,k,c,hc=>by
  unfold dP at hc
  by_cases h:evC x≠0
  ·rw [if_pos h] at hc;exact kS hS l g k c hc
  ·rw [if_neg h] at hc;have h0:evC x=0:=by omega
   obtain ⟨-,t0,t1⟩:=lV h0
   rcases List.mem_append.1 hc with hc | hc
   ·unfold takeC at hc
    split at hc
    ·unfold ko at hc;obtain ⟨st,h1,rfl⟩:=List.mem_map.1 hc;exact oX ⟨t0,t1,hS.s1,hS.s2,hS.s3,hS.s4⟩ st (List.mem_filter.1 h1).1
    ·simp at hc
   ·exact kS hS l _ true c hc
theorem allC_in {q:Qy} (hS:QyS q) {M:List (List Ev)}:∀ c∈nL q M,-1000≤c.st∧c.st≤9999:=fun c hc=>by
 obtain ⟨l,-,h⟩:=List.mem_flatMap.1 hc;exact kS hS l 0 false c h
inductive AddsE (ks:List Int) (tb0:List Pn) (rows0:List Rw):List Ct→List Pn→List Rw→Prop
 | nil:AddsE ks tb0 rows0 [] tb0 rows0
 | snoc {cs:List Ct} {tb tb':List Pn} {rows rows':List Rw} {c:Ct} (h:AddsE ks tb0 rows0 cs tb rows) (a:qv ks tb rows c tb' rows'):AddsE ks tb0 rows0 (cs++[c]) tb' rows'
theorem enI_adds {ks:List Int} {q:Qy} {cs0:List Ct} {lim:Option Int} {tb0:List Pn} {rows0:List Rw} {V:List Pn} (h:EnI ks q cs0 lim tb0 rows0 V) {ds:List Ct} {tb:List Pn} {rows:List Rw} (ha:AddsE ks tb0 rows0 ds tb rows) :
  (∀ d∈ds,nZ q lim d.st=true)→∃ V',EnI ks q (cs0++ds) lim tb rows V':=by
 induction ha with
 | nil=>intro _;exact ⟨V,by rw [List.append_nil];exact h⟩
 | snoc _ a ih =>
  intro hd;obtain ⟨V1,h1⟩:=ih (fun d hd1=>hd d (by simp [hd1]));obtain ⟨V2,h2⟩:=oL h1 _ (hd _ (by simp)) a;exact ⟨V2,by rw [← List.append_assoc];exact h2⟩
theorem endG_eq:∀ (l:List Ev) (g:Int) (k:Bool),(∀ x∈l,evC x=0)→(endG g k l).1=em g l
 | [],g,k,_=>rfl
 | x :: l,g,k,hx=>by
  have h0:¬ (evC x≠0):=by have:=hx x (by simp);omega
  rw [gC,if_neg h0];exact endG_eq l _ true (fun y hy=>hx y (by simp [hy]))
theorem endG_far1 {l:List Ev} (hx:∀ x∈l,evC x=0) (h:l≠[]):(endG 0 false l).1=em (-1) l:=by
 cases l with
 | nil=>exact absurd rfl h
 | cons x l =>
  have h0:¬ (evC x≠0):=by have:=hx x (by simp);omega
  obtain ⟨-,t0,-⟩:=lV (hx x (by simp));rw [gC,if_neg h0,endG_eq l _ true (fun y hy=>hx y (by simp [hy]))]
  show em (max 0 x.t) l=em (max (-1) x.t) l
  rw [show max 0 x.t=max (-1) x.t by omega]
theorem farL_nn {l:List Ev} (hx:∀ x∈l,evC x=0):0≤em (-1) l↔l≠[]:=by
 constructor
 ·exact farL_some
 ·intro h;cases l with
  | nil=>exact absurd rfl h
  | cons x l =>
   obtain ⟨-,t0,-⟩:=lV (hx x (by simp))
   have:=(farL_bound l (max (-1) x.t) (fun y hy=>hx y (by simp [hy]))).1
   show 0≤em (max (-1) x.t) l
   omega
theorem takeC_unk (q:Qy) (x:Ev) (u u':Int):takeC q x u false=takeC q x u' false∧takeN q x u false=takeN q x u' false:=by
 have e:∀ a b:Int,fu q a false=fu q b false:=fun a b=>funext fun st=>rfl
 unfold takeC takeN ko gI;rw [e u u'];exact ⟨rfl,rfl⟩
def bF (q:Qy) (g:Int):Int:=if g < 0 then 0 else g - q.delay
theorem part_more {q:Qy} {l:List Ev} (hx:∀ x∈l,evC x=0) {x:Ev} (hx0:evC x=0) :
  dP q 0 false (l++[x])=dP q 0 false l++takeC q x (bF q (em (-1) l)) (decide (0≤em (-1) l))∧eK q 0 false (l++[x])=eK q 0 false l+takeN q x (bF q (em (-1) l)) (decide (0≤em (-1) l)):=by
 have h0:¬ (evC x≠0):=by omega
 have one:∀ (g:Int) (k:Bool),dP q g k [x]=takeC q x (g - q.delay) k∧eK q g k [x]=takeN q x (g - q.delay) k:=fun g k=>by
  constructor
  ·rw [gZ,if_neg h0]
   simp [dP]
  ·show (if evC x≠0 then _ else _)=_
   rw [if_neg h0]
   simp [eK]
 have napp:∀ (l:List Ev) (g:Int) (k:Bool),eK q g k (l++[x])=eK q g k l+eK q (endG g k l).1 (endG g k l).2 [x]:=by
  intro l
  induction l with
  | nil=>intro g k;simp [eK,endG]
  | cons y l ih =>
   intro g k;rw [List.cons_append,gC]
   show (if evC y≠0 then eK q g k (l++[x]) else takeN q y (g - q.delay) k+eK q (max g y.t) true (l++[x]))=(if evC y≠0 then eK q g k l else takeN q y (g - q.delay) k+eK q (max g y.t) true l)+_
   by_cases h:evC y≠0
   ·rw [if_pos h,if_pos h,if_pos h];exact ih g k
   ·rw [if_neg h,if_neg h,if_neg h,ih];omega
 have key:dP q (endG 0 false l).1 (endG 0 false l).2 [x]=takeC q x (bF q (em (-1) l)) (decide (0≤em (-1) l))∧eK q (endG 0 false l).1 (endG 0 false l).2 [x]=takeN q x (bF q (em (-1) l)) (decide (0≤em (-1) l)):=by
  by_cases hl:l=[]
  ·subst hl;have e:decide (0≤em (-1) ([]:List Ev))=false:=by decide
   rw [e,(one _ _).1,(one _ _).2];exact takeC_unk q x _ _
  ·have hn:=(farL_nn hx).2 hl;have e:bF q (em (-1) l)=em (-1) l - q.delay:=by unfold bF;rw [if_neg (by omega)]
   rw [decide_eq_true hn,e,endG_some hx hl,endG_far1 hx hl];exact one _ _
 rw [iU,key.1,napp,key.2];exact ⟨rfl,rfl⟩
theorem iP {q:Qy} {x:Ev} (hx0:evC x=0):∀ (M:List (List Ev)) (p:Nat) (l:List Ev),M[p]?=some l→(∀ y∈l,evC y=0) →
  (nL q (M.set p (l++[x]))).Perm (nL q M++takeC q x (bF q (em (-1) l)) (decide (0≤em (-1) l)))∧pA q (M.set p (l++[x]))=pA q M+takeN q x (bF q (em (-1) l)) (decide (0≤em (-1) l))
 | [],p,l,h,_=>by simp at h
 | m :: M,0,l,h,hx=>by
  simp only [List.getElem?_cons_zero,Option.some.injEq] at h;subst h;obtain ⟨e1,e2⟩:=part_more hx hx0 (q:=q);rw [List.set_cons_zero,eP,eP,eL,eL,e1,e2];refine ⟨?_,by omega⟩;rw [List.append_assoc,List.append_assoc];exact List.perm_append_comm.append_left _
 | m :: M,p+1,l,h,hx=>by
  simp only [List.getElem?_cons_succ] at h;obtain ⟨e1,e2⟩:=iP hx0 M p l h hx (q:=q);rw [List.set_cons_succ,eP,eP,eL,eL,e2];refine ⟨?_,by omega⟩;rw [List.append_assoc];exact e1.append_left _
end Go.Proofs.YtcgjflamgnjhcaaGreatDoor

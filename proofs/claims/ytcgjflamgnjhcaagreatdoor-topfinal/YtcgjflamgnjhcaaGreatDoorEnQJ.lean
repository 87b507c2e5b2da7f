/- Own texts in one. Conditions: as named in each. -/
import Derived.Test.YtcgjflamgnjhcaaGreatDoorPaneDJ
import Derived.Test.YtcgjflamgnjhcaaGreatDoorChkRJ
import Derived.Test.YtcgjflamgnjhcaaGreatDoorEnAJ
set_option linter.unusedVariables false
set_option linter.unusedSimpArgs false
set_option maxRecDepth 100000
set_option maxHeartbeats 8000000
namespace Go.Proofs.YtcgjflamgnjhcaaGreatDoor
open Go.ChangeShapes Go.WideShapes Go.ChangeAt Go.RowKit
def ib (p : Pn) (c : Ct) : List Rw :=
 if p.told = true ∧ p.ac.map acV ≠ (dL p.ac c.vs).map acV then [⟨true,gX p⟩,⟨false,(p.st,p.k,p.n,(dL p.ac c.vs).map acV)⟩] else []
def qc (ks : List Int) (tb : List Pn) (rows : List Rw) (c : Ct) (tb' : List Pn) (rows' : List Rw) : Prop :=
 (∃ (j : Nat) (hj : j < tb.length) (av : Value),(tb[j].st = c.st ∧ tb[j].k = c.key.1 ∧ tb[j].n = c.key.2) ∧ tb' = tb.set j ⟨c.st,c.key.1,c.key.2,tb[j].told,dL tb[j].ac c.vs,av⟩ ∧ rows' = rows ++ ib tb[j] c) ∨
 ((∀ p ∈ tb,¬ (p.st = c.st ∧ p.k = c.key.1 ∧ p.n = c.key.2)) ∧ (∃ (i : Nat) (av : Value),i ≤ tb.length ∧ tb' = tb.take i ++ ⟨c.st,c.key.1,c.key.2,false,dL (ks.map ig) c.vs,av⟩ :: tb.drop i) ∧ ju tb' ∧ rows' = rows)
def kI (q : Qy) (lim : Option Int) (st : Int) : Bool:=match lim with
 | none => true
 | some u => !decide (st + (q.size + q.late) ≤ u)
def kpt (q : Qy) (lim : Option Int) (p : Pn) : Bool:=kI q lim p.st
def qt (q : Qy) (lim : Option Int) (p : Pn) : Prop:=∃ u,lim = some u ∧ p.st + q.size ≤ u
structure EnI (ks : List Int) (q : Qy) (cs : List Ct) (lim : Option Int) (tb : List Pn) (rows : List Rw) (V : List Pn) : Prop where
 ofv : OfV ks cs V
 tb : tb = V.filter (kpt q lim)
 told : ∀ p ∈ V,p.told = true → qt q lim p
 gone : ∀ p ∈ V,kpt q lim p = false → p.told = true
 net : pX rows V
theorem enI_nil (ks : List Int) (q : Qy) : EnI ks q [] none [] [] []:=⟨ofV_nil ks,rfl,by simp,by simp,netI_nil⟩
theorem updR_mem {x y : Pn} {l : List Pn} : y ∈ nB x l ↔ (y = x ∧ ∃ p ∈ l,dj p = dj x) ∨ (y ∈ l ∧ dj y ≠ dj x):=by
 unfold nB;rw [List.mem_map]
 constructor
 ·rintro ⟨p,hp,e⟩
  by_cases hk : dj p = dj x
  ·rw [if_pos hk] at e;exact .inl ⟨e.symm,p,hp,hk⟩
  ·rw [if_neg hk] at e;subst e;exact .inr ⟨hp,hk⟩
 ·rintro (⟨e,p,hp,hk⟩ | ⟨hy,hk⟩)
  ·exact ⟨p,hp,by rw [if_pos hk,e]⟩
  ·exact ⟨y,hy,by rw [if_neg hk]⟩
theorem fb {p x : Pn} (h : dj p = dj x) : p.st = x.st ∧ p.k = x.k ∧ p.n = x.n:=by
 unfold dj at h
 simpa only [Prod.mk.injEq] using h
theorem kx {V : List Pn} (h : ju V) {p r : Pn} (hp : p ∈ V) (hr : r ∈ V) (e : dj p = dj r) : p = r:=by
 obtain ⟨i,hi,rfl⟩:=List.mem_iff_getElem.1 hp;obtain ⟨j,hj,rfl⟩:=List.mem_iff_getElem.1 hr
 have:=ke h (List.getElem?_eq_getElem hi) (List.getElem?_eq_getElem hj) (fb e)
 subst this
 rfl
theorem mh {q : Qy} {lim : Option Int} {p x : Pn} (h : dj p = dj x) : kpt q lim p = kpt q lim x:=by
 unfold kpt;rw [(fb h).1]
theorem nT {ks : List Int} {q : Qy} {cs : List Ct} {lim : Option Int} {tb tb' : List Pn} {rows rows' : List Rw} {V : List Pn} (h : EnI ks q cs lim tb rows V) (c : Ct) (hk : kI q lim c.st = true) (ha : qc ks tb rows c tb' rows') :
  ∃ V',EnI ks q (cs ++ [c]) lim tb' rows' V':=by
 have hRV : V.Pairwise plt:=h.ofv.rise;have hRT : ju tb:=by rw [h.tb];exact hRV.filter _
 rcases ha with ⟨j,hj,av,he,rfl,rfl⟩ | ⟨hno,⟨i,av,hi,rfl⟩,hR,rfl⟩
 ·have hpt : tb[j] ∈ tb:=List.getElem_mem hj;have hpV : tb[j] ∈ V:=by
   have : tb[j] ∈ V.filter (kpt q lim):=h.tb ▸ hpt;exact (List.mem_filter.1 this).1
  generalize hpe : tb[j] = p at *;obtain ⟨x,hx⟩ : ∃ x : Pn,x = ⟨c.st,c.key.1,c.key.2,p.told,dL p.ac c.vs,av⟩:=⟨_,rfl⟩;rw [← hx];have hkx : dj p = dj x:=by rw [hx];unfold dj;rw [he.1,he.2.1,he.2.2]
  have hset : tb.set j x = nB x tb:=set_updR hRT hj (by rw [hpe];exact hkx);have hst : x.st = c.st ∧ x.k = c.key.1 ∧ x.n = c.key.2:=by rw [hx];exact ⟨rfl,rfl,rfl⟩
  have hac:=h.ofv.acc p hpV;have hkc : kpt q lim x = true:=by unfold kpt;rw [hst.1];exact hk
  refine ⟨nB x V,⟨updR_rise hRV,fun y hy => ?_,fun d hd => ?_,by have:=h.ofv.few;simp [nB];omega⟩,?_,fun y hy ht => ?_,fun y hy hg => ?_,?_⟩
  ·rcases updR_mem.1 hy with ⟨e,-⟩ | ⟨hyV,hne⟩
   ·rw [e,hst.1,hst.2.1,hst.2.2,jM,nO _ _ _ c ⟨rfl,rfl,rfl⟩];refine ⟨?_,by simp⟩;rw [gQ,← he.1,← he.2.1,← he.2.2,← hac.1,hx]
   ·obtain ⟨a1,a2⟩:=h.ofv.acc y hyV;rw [jM,mB _ _ _ c (fun e => hne (by unfold dj;rw [hst.1,hst.2.1,hst.2.2,e.1,e.2.1,e.2.2])),List.append_nil];exact ⟨a1,a2⟩
  ·rcases List.mem_append.1 hd with hd | hd
   ·obtain ⟨r,hr,e⟩:=h.ofv.all d hd
    by_cases hrk : dj r = dj x
    ·have:=fb hrk
     exact ⟨x,updR_mem.2 (.inl ⟨rfl,r,hr,hrk⟩),by rw [← this.1];exact e.1,by rw [← this.2.1];exact e.2.1,by rw [← this.2.2];exact e.2.2⟩
    ·exact ⟨r,updR_mem.2 (.inr ⟨hr,hrk⟩),e⟩
   ·rw [List.mem_singleton.1 hd];exact ⟨x,updR_mem.2 (.inl ⟨rfl,p,hpV,hkx⟩),hst⟩
  ·rw [hset,filter_updR (kpt q lim) (fun r hr => mh hr),← h.tb]
  ·rcases updR_mem.1 hy with ⟨e,-⟩ | ⟨hyV,-⟩
   ·have : p.told = true:=by rw [e,hx] at ht;exact ht
    obtain ⟨u,e1,e2⟩:=h.told p hpV this;exact ⟨u,e1,by rw [e,hst.1,← he.1];exact e2⟩
   ·exact h.told y hyV ht
  ·rcases updR_mem.1 hy with ⟨e,-⟩ | ⟨hyV,-⟩
   ·rw [e,hkc] at hg;cases hg
   ·exact h.gone y hyV hg
  ·have hox : gX x = (p.st,p.k,p.n,(dL p.ac c.vs).map acV):=by rw [hx];unfold gX;rw [he.1,he.2.1,he.2.2]
   have hmem : ∀ z,(∃ r ∈ nB x V,r.told = true ∧ gX r = z) ↔ (x.told = true ∧ gX x = z) ∨ ((∃ r ∈ V,r.told = true ∧ gX r = z) ∧ fM z ≠ dj x):=fun z => by
    constructor
    ·rintro ⟨r,hr,h1,h2⟩
     rcases updR_mem.1 hr with ⟨e,-⟩ | ⟨hrV,hne⟩
     ·rw [e] at h1 h2;exact .inl ⟨h1,h2⟩
     ·exact .inr ⟨⟨r,hrV,h1,h2⟩,by rw [← h2,dY];exact hne⟩
    ·rintro (⟨h1,h2⟩ | ⟨⟨r,hr,h1,h2⟩,hne⟩)
     ·exact ⟨x,updR_mem.2 (.inl ⟨rfl,p,hpV,hkx⟩),h1,h2⟩
     ·exact ⟨r,updR_mem.2 (.inr ⟨hr,by rw [← dY,h2];exact hne⟩),h1,h2⟩
   have htx : x.told = p.told:=by rw [hx]
   have hold : ∀ z,(∃ r ∈ V,r.told = true ∧ gX r = z) → fM z = dj x → z = gX p:=fun z ⟨r,hr,h1,h2⟩ e => by
    rw [← h2] at e ⊢;rw [kx hRV hr hpV (by rw [← dY,e,hkx])]
   unfold ib
   by_cases hrr : p.told = true ∧ p.ac.map acV ≠ (dL p.ac c.vs).map acV
   ·rw [if_pos hrr,← hox];refine netI_turn h.net (by rw [dY,dY,hkx]) ⟨p,hpV,hrr.1,rfl⟩ (fun z => ?_);rw [hmem z,dY,← hkx]
    constructor
    ·rintro (⟨-,e⟩ | e)
     ·exact .inl e.symm
     ·exact .inr e
    ·rintro (e | e)
     ·exact .inl ⟨by rw [htx];exact hrr.1,e.symm⟩
     ·exact .inr e
   ·rw [if_neg hrr,List.append_nil];refine lC h.net (fun z => ?_);rw [hmem z]
    by_cases htp : p.told = true
    ·have heq : p.ac.map acV = (dL p.ac c.vs).map acV:=Classical.byContradiction fun e => hrr ⟨htp,e⟩
     have hoe : gX x = gX p:=by rw [hox,← heq];rfl
     constructor
     ·intro hz
      by_cases hzk : fM z = dj x
      ·exact .inl ⟨by rw [htx];exact htp,by rw [hoe];exact (hold z hz hzk).symm⟩
      ·exact .inr ⟨hz,hzk⟩
     ·rintro (⟨-,e⟩ | ⟨hz,-⟩)
      ·exact ⟨p,hpV,htp,by rw [← hoe];exact e⟩
      ·exact hz
    ·constructor
     ·rintro ⟨r,hr,h1,h2⟩;refine .inr ⟨⟨r,hr,h1,h2⟩,fun e => ?_⟩;rw [← h2,dY] at e;rw [kx hRV hr hpV (by rw [e,hkx])] at h1;exact htp h1
     ·rintro (⟨e,-⟩ | ⟨hz,-⟩)
      ·rw [htx] at e;exact absurd e htp
      ·exact hz
 ·obtain ⟨x,hx⟩ : ∃ x : Pn,x = ⟨c.st,c.key.1,c.key.2,false,dL (ks.map ig) c.vs,av⟩:=⟨_,rfl⟩;rw [← hx] at hR ⊢;have hst : x.st = c.st ∧ x.k = c.key.1 ∧ x.n = c.key.2:=by rw [hx];exact ⟨rfl,rfl,rfl⟩
  have hkc : kpt q lim x = true:=by unfold kpt;rw [hst.1];exact hk
  have hnV : ∀ p ∈ V,dj p ≠ dj x:=fun p hp e => by
   have hpt : p ∈ tb:=by rw [h.tb];exact List.mem_filter.2 ⟨hp,by rw [mh e];exact hkc⟩
   have:=fb e
   exact hno p hpt ⟨this.1.trans hst.1,this.2.1.trans hst.2.1,this.2.2.trans hst.2.2⟩
  have hz : ofK c.st c.key.1 c.key.2 cs = []:=by
   unfold ofK;rw [List.filter_eq_nil_iff];intro d hd;simp only [decide_eq_true_eq];intro e;obtain ⟨p,hp,e1,e2,e3⟩:=h.ofv.all d hd;exact hnV p hp (by unfold dj;rw [hst.1,hst.2.1,hst.2.2,e1,e2,e3,e.1,e.2.1,e.2.2])
  have htx : x.told = false:=by rw [hx]
  refine ⟨nC x V,⟨ft x V hRV hnV,fun y hy => ?_,fun d hd => ?_,by have:=h.ofv.few;rw [ms];simp;omega⟩,?_,fun y hy ht => ?_,fun y hy hg => ?_,lC h.net (fun z => ?_)⟩
  ·rcases (cM x y V).1 hy with e | hyV
   ·rw [e,hst.1,hst.2.1,hst.2.2,jM,hz,nO _ _ _ c ⟨rfl,rfl,rfl⟩,hx];exact ⟨rfl,by simp⟩
   ·obtain ⟨a1,a2⟩:=h.ofv.acc y hyV;have hne:=hnV y hyV;rw [jM,mB _ _ _ c (fun e => hne (by unfold dj;rw [hst.1,hst.2.1,hst.2.2,e.1,e.2.1,e.2.2])),List.append_nil];exact ⟨a1,a2⟩
  ·rcases List.mem_append.1 hd with hd | hd
   ·obtain ⟨r,hr,e⟩:=h.ofv.all d hd;exact ⟨r,(cM x r V).2 (.inr hr),e⟩
   ·rw [List.mem_singleton.1 hd];exact ⟨x,(cM x x V).2 (.inl rfl),hst⟩
  ·rw [ins_is hR,filter_insR hRV hnV (kpt q lim) hkc,← h.tb]
  ·rcases (cM x y V).1 hy with e | hyV
   ·rw [e,htx] at ht;cases ht
   ·exact h.told y hyV ht
  ·rcases (cM x y V).1 hy with e | hyV
   ·rw [e,hkc] at hg;cases hg
   ·exact h.gone y hyV hg
  ·constructor
   ·rintro ⟨r,hr,h1,h2⟩;exact ⟨r,(cM x r V).2 (.inr hr),h1,h2⟩
   ·rintro ⟨r,hr,h1,h2⟩
    rcases (cM x r V).1 hr with e | hrV
    ·rw [e,htx] at h1;cases h1
    ·exact ⟨r,hrV,h1,h2⟩
theorem bP (size u : Int) (p : Pn) : dj (cH size u p) = dj p ∧ gX (cH size u p) = gX p ∧ (cH size u p).st = p.st ∧ (cH size u p).ac = p.ac:=by
 unfold cH
 split <;> exact ⟨rfl,rfl,rfl,rfl⟩
theorem dV (size u : Int) (p : Pn) : (cH size u p).told = (p.told || decide (p.st + size ≤ u)):=by
 unfold cH dt;cases h : p.told <;> by_cases h2 : p.st + size ≤ u <;> simp [h,h2]
def bY (q : Qy) (u : Int) (tb : List Pn) : List Rw:=(tb.filter (dt q.size u)).map fun p => ⟨false,gX p⟩
def lf (q : Qy) (u : Int) (tb : List Pn) : List Pn:=(tb.map (cH q.size u)).filter (stays (q.size + q.late) u)
theorem enI_tell {ks : List Int} {q : Qy} {cs : List Ct} {lim : Option Int} {tb : List Pn} {rows : List Rw} {V : List Pn} (h : EnI ks q cs lim tb rows V) (u : Int) (hle : ∀ u0,lim = some u0 → u0 ≤ u) (hl0 : 0 ≤ q.late) :
  EnI ks q cs (some u) (lf q u tb) (rows ++ bY q u tb) (V.map (cH q.size u)) ∧ ∀ p ∈ V.map (cH q.size u),qt q (some u) p → p.told = true:=by
 have hRV : V.Pairwise plt:=h.ofv.rise;have hdue : ∀ p ∈ V,dt q.size u p = true → kpt q lim p = true:=fun p hp hd => by
  cases hk : kpt q lim p with
  | true => rfl
  | false =>
   have:=h.gone p hp hk
   unfold dt at hd;rw [this] at hd;cases hd
 have hdt : tb.filter (dt q.size u) = V.filter (dt q.size u):=by
  rw [h.tb,List.filter_filter];refine List.filter_congr fun p hp => ?_
  cases hd : dt q.size u p with
  | false => simp
  | true => simp [hdue p hp hd]
 refine ⟨⟨⟨?_,fun y hy => ?_,fun d hd => ?_,by simpa using h.ofv.few⟩,?_,fun y hy ht => ?_,fun y hy hg => ?_,?_⟩,fun y hy he => ?_⟩
 ·refine List.pairwise_map.2 (hRV.imp fun {a b} hab => ?_);have ea:=fb (bP q.size u a).1;have eb:=fb (bP q.size u b).1;rw [ea.1,ea.2.1,ea.2.2,eb.1,eb.2.1,eb.2.2];exact hab
 ·obtain ⟨p,hp,rfl⟩:=List.mem_map.1 hy;have e:=fb (bP q.size u p).1;rw [(bP q.size u p).2.2.2,e.1,e.2.1,e.2.2];exact h.ofv.acc p hp
 ·obtain ⟨p,hp,e⟩:=h.ofv.all d hd;have e1:=fb (bP q.size u p).1;exact ⟨_,List.mem_map_of_mem hp,by rw [e1.1,e1.2.1,e1.2.2];exact e⟩
 ·unfold lf;rw [h.tb,List.filter_map,List.filter_map,List.filter_filter]
  congr 1
  refine List.filter_congr fun p hp => ?_
  simp only [Function.comp];have e1 : stays (q.size + q.late) u (cH q.size u p) = kpt q (some u) p:=by
   unfold stays kpt kI;rw [(bP q.size u p).2.2.1]
  have e2 : kpt q (some u) (cH q.size u p) = kpt q (some u) p:=mh (bP q.size u p).1;rw [e1,e2];cases hk : kpt q (some u) p with
  | false => simp
  | true =>
   have : kpt q lim p = true:=by
    cases hl : lim with
    | none => rfl
    | some u0 =>
     have:=hle u0 hl
     unfold kpt kI at hk ⊢;simp only [Bool.not_eq_true',decide_eq_false_iff_not] at hk ⊢;omega
   rw [this]
   rfl
 ·obtain ⟨p,hp,rfl⟩:=List.mem_map.1 hy;rw [dV] at ht;refine ⟨u,rfl,?_⟩;rw [(bP q.size u p).2.2.1]
  rcases Bool.or_eq_true_iff.1 ht with ht | ht
  ·obtain ⟨u0,e1,e2⟩:=h.told p hp ht
   have:=hle u0 e1
   omega
  ·exact of_decide_eq_true ht
 ·obtain ⟨p,hp,rfl⟩:=List.mem_map.1 hy;rw [dV];unfold kpt kI at hg;rw [(bP q.size u p).2.2.1] at hg;simp only [Bool.not_eq_false',decide_eq_true_eq] at hg;rw [decide_eq_true (by omega)]
  simp
 ·obtain ⟨out,n1,n2,n3⟩:=h.net;have hr : bY q u tb = ((V.filter (dt q.size u)).map gX).map (Rw.mk false):=by
   unfold bY;rw [hdt,List.map_map]
   rfl
  have hk2 : (((V.filter (dt q.size u)).map gX).map fM).Nodup:=by
   rw [List.map_map]
   show List.Pairwise _ _
   refine List.pairwise_map.2 ((hRV.filter _).imp fun {a b} hab => ?_);intro e
   have:=fb (show dj a = dj b from e)
   unfold plt lexlt at hab;omega
  have hk3 : ∀ x ∈ (V.filter (dt q.size u)).map gX,fM x ∉ out.map fM:=fun x hx hm => by
   obtain ⟨p,hp,rfl⟩:=List.mem_map.1 hx;obtain ⟨hpV,hpd⟩:=List.mem_filter.1 hp;obtain ⟨y,hy,e⟩:=List.mem_map.1 hm;obtain ⟨r,hr,h1,h2⟩:=(n3 y).1 hy;rw [← h2] at e
   have:=kx hRV hr hpV e
   rw [this] at h1;unfold dt at hpd;rw [h1] at hpd;cases hpd
  refine ⟨out ++ (V.filter (dt q.size u)).map gX,?_,?_,fun x => ?_⟩
  ·rw [netL_app,n1,hr];exact netL_say _ out n2 hk2 hk3
  ·rw [List.map_append];refine List.nodup_append.2 ⟨n2,hk2,fun a ha b hb e => ?_⟩;obtain ⟨y,hy,e1⟩:=List.mem_map.1 hb;exact hk3 y hy (by rw [e1,← e];exact ha)
  ·rw [List.mem_append,n3 x]
   constructor
   ·rintro (⟨p,hp,h1,h2⟩ | hx)
    ·exact ⟨_,List.mem_map_of_mem hp,by rw [dV,h1];rfl,by rw [(bP q.size u p).2.1];exact h2⟩
    ·obtain ⟨p,hp,rfl⟩:=List.mem_map.1 hx;obtain ⟨hpV,hpd⟩:=List.mem_filter.1 hp;refine ⟨_,List.mem_map_of_mem hpV,?_,(bP q.size u p).2.1⟩;unfold dt at hpd;rw [dV,(Bool.and_eq_true_iff.1 hpd).2]
     simp
   ·rintro ⟨y,hy,h1,h2⟩;obtain ⟨p,hp,rfl⟩:=List.mem_map.1 hy;rw [(bP q.size u p).2.1] at h2
    by_cases ht : p.told = true
    ·exact .inl ⟨p,hp,ht,h2⟩
    ·refine .inr (List.mem_map.2 ⟨p,List.mem_filter.2 ⟨hp,?_⟩,h2⟩);rw [dV] at h1;unfold dt;cases hpt : p.told with
     | true => exact absurd hpt ht
     | false =>
      rw [hpt] at h1
      simpa using h1
 ·obtain ⟨p,hp,rfl⟩:=List.mem_map.1 hy;obtain ⟨u0,e1,e2⟩:=he;cases e1;rw [(bP q.size u p).2.2.1] at e2;rw [dV,decide_eq_true e2]
  simp
theorem chkAs_zero : ∀ {l : List AgQ},chkAs l = 0 → ∀ a ∈ l,chkA a = 0
 | [],_,a,h => by simp at h
 | b :: l,h,a,ha => by
  unfold chkAs at h
  by_cases hb : chkA b = 0
  ·rw [if_neg (by simp [hb])] at h
   rcases List.mem_cons.1 ha with rfl | ha
   ·exact hb
   ·exact chkAs_zero h a ha
  ·rw [if_pos hb] at h;exact absurd h hb
theorem gJ {l : List Nd} (h : (cF l).2 = 0) : kq l = 0:=by
 by_cases h9 : kq l = 0
 ·exact h9
 ·exfalso
  have e : (cF l).2 = kq l:=by unfold cF;rw [if_pos h9]
  rw [e] at h;exact h9 h
structure OkQ (q : Qy) : Prop where
 n0 : 0 < q.aggs.length
 n4 : q.aggs.length ≤ 4
 ag : ∀ a ∈ q.aggs,chkA a = 0
 wh : 0 < q.wh.length → kq q.wh = 0
 by_ : 0 < q.bys.length → kq q.bys = 0
 s1 : 1 ≤ q.size ∧ q.size ≤ 1000
 s2 : 1 ≤ q.slide ∧ q.slide ≤ 1000
 s3 : 0 ≤ q.delay ∧ q.delay ≤ 1000
 s4 : 0 ≤ q.late ∧ q.late ≤ 1000
theorem jd {q : Qy} (h : chkQ q = 0) : OkQ q:=by
 unfold chkQ at h
 by_cases h1 : q.aggs.length = 0 ∨ 4 < q.aggs.length
 ·rw [if_pos h1] at h;exact absurd h (by decide)
 rw [if_neg h1] at h;have h2 : chkAs q.aggs = 0:=Classical.byContradiction fun h2 => by rw [if_pos h2] at h;exact h2 h
 rw [if_neg (by simp [h2])] at h;have h3 : chkW q.wh = 0:=Classical.byContradiction fun h3 => by rw [if_pos h3] at h;exact h3 h
 rw [if_neg (by simp [h3])] at h;have h4 : chkB q.bys = 0:=Classical.byContradiction fun h4 => by rw [if_pos h4] at h;exact h4 h
 rw [if_neg (by simp [h4])] at h;unfold nS at h
 by_cases h5 : q.size < 1 ∨ 1000 < q.size ∨ q.slide < 1 ∨ 1000 < q.slide ∨ q.delay < 0 ∨ 1000 < q.delay ∨ q.late < 0 ∨ 1000 < q.late
 ·rw [if_pos h5] at h;exact absurd h (by decide)
 refine ⟨by omega,by omega,chkAs_zero h2,fun hp => ?_,fun hp => ?_,by omega,by omega,by omega,by omega⟩
 ·unfold chkW at h3;rw [if_neg (by omega)] at h3
  by_cases h6 : (cF q.wh).2 = 0
  ·exact gJ h6
  ·rw [if_pos h6] at h3;exact absurd h3 h6
 ·unfold chkB at h4;rw [if_neg (by omega)] at h4;exact gJ h4
theorem jY {l : List Nd} (h : kq l = 0) : ∀ n ∈ l,okN n = 0:=fun n hn => by
 obtain ⟨bs,hg,-⟩:=good_of_chk h;obtain ⟨i,hi,rfl⟩:=List.mem_iff_getElem.1 hn;exact (hg.2 i _ (List.getElem?_eq_getElem hi)).1
theorem qyN_of {q : Qy} (h : chkQ q = 0) : QyN q:=by
 have hq:=jd h;refine ⟨fun n hn => ?_,fun n hn => ?_,fun a ha n hn => ?_⟩
 ·exact jY (hq.wh (List.length_pos_of_mem hn)) n hn
 ·exact jY (hq.by_ (List.length_pos_of_mem hn)) n hn
 ·have h1:=hq.ag a ha;unfold chkA at h1
  by_cases h2 : a.kind < 1 ∨ 5 < a.kind
  ·rw [if_pos h2] at h1;exact absurd h1 (by decide)
  ·rw [if_neg h2] at h1
   by_cases h3 : a.kind = 1
   ·rw [if_pos h3,if_pos (List.length_pos_of_mem hn)] at h1;exact absurd h1 (by decide)
   ·rw [if_neg h3] at h1
    by_cases h4 : (cF a.of).2 = 0
    ·exact jY (gJ h4) n hn
    ·rw [if_pos h4] at h1;exact absurd h1 h4
theorem qyK_of {q : Qy} (h : chkQ q = 0) : ∀ a ∈ q.aggs,1 ≤ a.kind ∧ a.kind ≤ 5:=fun a ha => by
 have h1:=(jd h).ag a ha;unfold chkA at h1
 by_cases h2 : a.kind < 1 ∨ 5 < a.kind
 ·rw [if_pos h2] at h1;exact absurd h1 (by decide)
 ·omega
theorem n7 {q : Qy} (h : chkQ q = 0) : QyS q:=by
 have hq:=jd h;have h5 : nS q = 0:=by
  unfold chkQ at h
  by_cases h1 : q.aggs.length = 0 ∨ 4 < q.aggs.length
  ·rw [if_pos h1] at h;exact absurd h (by decide)
  rw [if_neg h1] at h;have h2 : chkAs q.aggs = 0:=Classical.byContradiction fun h2 => by rw [if_pos h2] at h;exact h2 h
  rw [if_neg (by simp [h2])] at h;have h3 : chkW q.wh = 0:=Classical.byContradiction fun h3 => by rw [if_pos h3] at h;exact h3 h
  rw [if_neg (by simp [h3])] at h;have h4 : chkB q.bys = 0:=Classical.byContradiction fun h4 => by rw [if_pos h4] at h;exact h4 h
  rw [if_neg (by simp [h4])] at h;exact h
 unfold nS at h5;rw [if_neg (by have:=hq.s1;have:=hq.s2;have:=hq.s3;have:=hq.s4;omega)] at h5;have h6 : ¬ (q.size < q.slide ∨ 4 * q.slide < q.size):=fun h6 => by rw [if_pos h6] at h5;exact absurd h5 (by decide)
 have:=hq.s1
 have:=hq.s2
 have:=hq.s3
 have:=hq.s4
 constructor <;> omega
theorem iD {q : Qy} (hS : QyS q) : ∀ (l : List Ev) (g : Int) (k : Bool),(dH q g k l).length ≤ 4 * l.length ∧ eO q g k l ≤ 4 * l.length
 | [],g,k => by simp [dH,eO]
 | x :: l,g,k => by
  unfold dH eO
  by_cases h : evC x ≠ 0
  ·rw [if_pos h,if_pos h]
   have:=iD hS l g k
   simp only [List.length_cons];omega
  ·rw [if_neg h,if_neg h];have h0 : evC x = 0:=by omega
   obtain ⟨-,t0,t1⟩:=lL h0;have h1:=lB (q:=q) (x:=x) ⟨t0,t1,hS.s1,hS.s2,hS.s3,hS.s4⟩ (g - q.delay) k;have h2:=iD hS l (max g x.t) true;simp only [List.length_cons,List.length_append];omega
structure PtsR (w : World) (pv : Value) (vs : List Value) (M : List (List Ev)) : Prop where
 row : cD w pv 1 M.length vs
 len : vs.length = M.length
 each : ∀ (i : Nat) (v : Value) (l : List Ev),vs[i]? = some v → M[i]? = some l → cD w v 7 l.length (rowOf fR l)
theorem fD {w w' : World} {pv : Value} {vs : List Value} {M : List (List Ev)} (h : PtsR w pv vs M) (hb : Below w.heap.size w w') : PtsR w' pv vs M:=⟨aB h.row hb,h.len,fun i v l h1 h2 => aB (h.each i v l h1 h2) hb⟩
theorem eK (q : Qy) (l : List Ev) (M : List (List Ev)) : nI q (l :: M) = dH q 0 false l ++ nI q M:=by simp [nI]
def kL (M : List (List Ev)) : Nat:=(M.map List.length).sum
theorem dD (l : List Ev) (M : List (List Ev)) : kL (l :: M) = l.length + kL M:=by simp [kL]
theorem evsN_40 : ∀ (M : List (List Ev)),(∀ l ∈ M,l.length ≤ 40) → kL M ≤ 40 * M.length
 | [],_ => by simp [kL]
 | l :: M,h => by
  rw [dD,List.length_cons];have h1:=h l (by simp);have h2:=evsN_40 M (fun x hx => h x (by simp [hx]));omega
theorem eI (q : Qy) (l : List Ev) (M : List (List Ev)) : pb q (l :: M) = eO q 0 false l + pb q M:=by simp [pb]
def endG : Int → Bool → List Ev → Int × Bool
 | g,k,[] => (g,k)
 | g,k,x :: l => if evC x ≠ 0 then endG g k l else endG (max g x.t) true l
theorem gU (q : Qy) (g : Int) (k : Bool) (x : Ev) (l : List Ev) : dH q g k (x :: l) = if evC x ≠ 0 then dH q g k l else takeC q x (g - q.delay) k ++ dH q (max g x.t) true l:=rfl
theorem gl (g : Int) (k : Bool) (x : Ev) (l : List Ev) : endG g k (x :: l) = if evC x ≠ 0 then endG g k l else endG (max g x.t) true l:=rfl
theorem jk (q : Qy) (m : List Ev) : ∀ (l : List Ev) (g : Int) (k : Bool),dH q g k (l ++ m) = dH q g k l ++ dH q (endG g k l).1 (endG g k l).2 m
 | [],g,k => by simp [dH,endG]
 | x :: l,g,k => by
  rw [List.cons_append,gU,gU,gl]
  by_cases h : evC x ≠ 0
  ·rw [if_pos h,if_pos h,if_pos h];exact jk q m l g k
  ·rw [if_neg h,if_neg h,if_neg h,List.append_assoc,jk q m l (max g x.t) true]
def ej (a : Int) (l : List Ev) : Int:=l.foldl (fun b x => max b x.t) a
theorem endG_known : ∀ (l : List Ev) (g : Int),(∀ x ∈ l,evC x = 0) → (endG g true l).2 = true
 | [],g,_ => rfl
 | x :: l,g,hx => by
  have h0 : ¬ (evC x ≠ 0):=by have:=hx x (by simp);omega
  unfold endG;rw [if_neg h0];exact endG_known l _ (fun y hy => hx y (by simp [hy]))
theorem endG_some {l : List Ev} {g : Int} {k : Bool} (hx : ∀ x ∈ l,evC x = 0) (h : l ≠ []) : (endG g k l).2 = true:=by
 cases l with
 | nil => exact absurd rfl h
 | cons x l =>
  have h0 : ¬ (evC x ≠ 0):=by have:=hx x (by simp);omega
  unfold endG;rw [if_neg h0];exact endG_known l _ (fun y hy => hx y (by simp [hy]))
theorem farL_bound : ∀ (l : List Ev) (a : Int),(∀ x ∈ l,evC x = 0) → a ≤ ej a l ∧ ej a l ≤ max a 9999
 | [],a,_ => by simp [ej];omega
 | x :: l,a,hx => by
  have h0:=hx x (by simp);obtain ⟨-,t0,t1⟩:=lL h0
  have:=farL_bound l (max a x.t) (fun y hy => hx y (by simp [hy]))
  show a ≤ ej (max a x.t) l ∧ ej (max a x.t) l ≤ _
  omega
theorem farL_some {l : List Ev} (h : 0 ≤ ej (-1) l) : l ≠ []:=by
 intro e;subst e
 simp [ej] at h
theorem jQ {q : Qy} (hS : QyS q) : ∀ (l : List Ev) (g : Int) (k : Bool),∀ c ∈ dH q g k l,-1000 ≤ c.st ∧ c.st ≤ 9999
 | [],g,k,c,hc => by simp [dH] at hc
 | x :: l,g,k,c,hc => by
  unfold dH at hc
  by_cases h : evC x ≠ 0
  ·rw [if_pos h] at hc;exact jQ hS l g k c hc
  ·rw [if_neg h] at hc;have h0 : evC x = 0:=by omega
   obtain ⟨-,t0,t1⟩:=lL h0
   rcases List.mem_append.1 hc with hc | hc
   ·unfold takeC at hc
    split at hc
    ·unfold jv at hc;obtain ⟨st,h1,rfl⟩:=List.mem_map.1 hc;exact oX ⟨t0,t1,hS.s1,hS.s2,hS.s3,hS.s4⟩ st (List.mem_filter.1 h1).1
    ·simp at hc
   ·exact jQ hS l _ true c hc
theorem lU {q : Qy} (hS : QyS q) {M : List (List Ev)} : ∀ c ∈ nI q M,-1000 ≤ c.st ∧ c.st ≤ 9999:=fun c hc => by
 obtain ⟨l,-,h⟩:=List.mem_flatMap.1 hc;exact jQ hS l 0 false c h
inductive AddsE (ks : List Int) (tb0 : List Pn) (rows0 : List Rw) : List Ct → List Pn → List Rw → Prop
 | nil : AddsE ks tb0 rows0 [] tb0 rows0
 | snoc {cs : List Ct} {tb tb' : List Pn} {rows rows' : List Rw} {c : Ct} (h : AddsE ks tb0 rows0 cs tb rows) (a : qc ks tb rows c tb' rows') : AddsE ks tb0 rows0 (cs ++ [c]) tb' rows'
theorem enI_adds {ks : List Int} {q : Qy} {cs0 : List Ct} {lim : Option Int} {tb0 : List Pn} {rows0 : List Rw} {V : List Pn} (h : EnI ks q cs0 lim tb0 rows0 V) {ds : List Ct} {tb : List Pn} {rows : List Rw} (ha : AddsE ks tb0 rows0 ds tb rows) :
  (∀ d ∈ ds,kI q lim d.st = true) → ∃ V',EnI ks q (cs0 ++ ds) lim tb rows V':=by
 induction ha with
 | nil => intro _;exact ⟨V,by rw [List.append_nil];exact h⟩
 | snoc _ a ih =>
  intro hd;obtain ⟨V1,h1⟩:=ih (fun d hd1 => hd d (by simp [hd1]));obtain ⟨V2,h2⟩:=nT h1 _ (hd _ (by simp)) a;exact ⟨V2,by rw [← List.append_assoc];exact h2⟩
theorem endG_eq : ∀ (l : List Ev) (g : Int) (k : Bool),(∀ x ∈ l,evC x = 0) → (endG g k l).1 = ej g l
 | [],g,k,_ => rfl
 | x :: l,g,k,hx => by
  have h0 : ¬ (evC x ≠ 0):=by have:=hx x (by simp);omega
  rw [gl,if_neg h0];exact endG_eq l _ true (fun y hy => hx y (by simp [hy]))
theorem endG_far1 {l : List Ev} (hx : ∀ x ∈ l,evC x = 0) (h : l ≠ []) : (endG 0 false l).1 = ej (-1) l:=by
 cases l with
 | nil => exact absurd rfl h
 | cons x l =>
  have h0 : ¬ (evC x ≠ 0):=by have:=hx x (by simp);omega
  obtain ⟨-,t0,-⟩:=lL (hx x (by simp));rw [gl,if_neg h0,endG_eq l _ true (fun y hy => hx y (by simp [hy]))]
  show ej (max 0 x.t) l = ej (max (-1) x.t) l
  rw [show max 0 x.t = max (-1) x.t by omega]
theorem farL_nn {l : List Ev} (hx : ∀ x ∈ l,evC x = 0) : 0 ≤ ej (-1) l ↔ l ≠ []:=by
 constructor
 ·exact farL_some
 ·intro h;cases l with
  | nil => exact absurd rfl h
  | cons x l =>
   obtain ⟨-,t0,-⟩:=lL (hx x (by simp))
   have:=(farL_bound l (max (-1) x.t) (fun y hy => hx y (by simp [hy]))).1
   show 0 ≤ ej (max (-1) x.t) l
   omega
theorem takeC_unk (q : Qy) (x : Ev) (u u' : Int) : takeC q x u false = takeC q x u' false ∧ takeN q x u false = takeN q x u' false:=by
 have e : ∀ a b : Int,fd q a false = fd q b false:=fun a b => funext fun st => rfl
 unfold takeC takeN jv gw;rw [e u u'];exact ⟨rfl,rfl⟩
def bz (q : Qy) (g : Int) : Int:=if g < 0 then 0 else g - q.delay
theorem part_more {q : Qy} {l : List Ev} (hx : ∀ x ∈ l,evC x = 0) {x : Ev} (hx0 : evC x = 0) :
  dH q 0 false (l ++ [x]) = dH q 0 false l ++ takeC q x (bz q (ej (-1) l)) (decide (0 ≤ ej (-1) l)) ∧ eO q 0 false (l ++ [x]) = eO q 0 false l + takeN q x (bz q (ej (-1) l)) (decide (0 ≤ ej (-1) l)):=by
 have h0 : ¬ (evC x ≠ 0):=by omega
 have one : ∀ (g : Int) (k : Bool),dH q g k [x] = takeC q x (g - q.delay) k ∧ eO q g k [x] = takeN q x (g - q.delay) k:=fun g k => by
  constructor
  ·rw [gU,if_neg h0]
   simp [dH]
  ·show (if evC x ≠ 0 then _ else _) = _
   rw [if_neg h0]
   simp [eO]
 have napp : ∀ (l : List Ev) (g : Int) (k : Bool),eO q g k (l ++ [x]) = eO q g k l + eO q (endG g k l).1 (endG g k l).2 [x]:=by
  intro l
  induction l with
  | nil => intro g k;simp [eO,endG]
  | cons y l ih =>
   intro g k;rw [List.cons_append,gl]
   show (if evC y ≠ 0 then eO q g k (l ++ [x]) else takeN q y (g - q.delay) k + eO q (max g y.t) true (l ++ [x])) = (if evC y ≠ 0 then eO q g k l else takeN q y (g - q.delay) k + eO q (max g y.t) true l) + _
   by_cases h : evC y ≠ 0
   ·rw [if_pos h,if_pos h,if_pos h];exact ih g k
   ·rw [if_neg h,if_neg h,if_neg h,ih];omega
 have key : dH q (endG 0 false l).1 (endG 0 false l).2 [x] = takeC q x (bz q (ej (-1) l)) (decide (0 ≤ ej (-1) l)) ∧ eO q (endG 0 false l).1 (endG 0 false l).2 [x] = takeN q x (bz q (ej (-1) l)) (decide (0 ≤ ej (-1) l)):=by
  by_cases hl : l = []
  ·subst hl;have e : decide (0 ≤ ej (-1) ([] : List Ev)) = false:=by decide
   rw [e,(one _ _).1,(one _ _).2];exact takeC_unk q x _ _
  ·have hn:=(farL_nn hx).2 hl;have e : bz q (ej (-1) l) = ej (-1) l - q.delay:=by unfold bz;rw [if_neg (by omega)]
   rw [decide_eq_true hn,e,endG_some hx hl,endG_far1 hx hl];exact one _ _
 rw [jk,key.1,napp,key.2];exact ⟨rfl,rfl⟩
theorem gF {q : Qy} {x : Ev} (hx0 : evC x = 0) : ∀ (M : List (List Ev)) (p : Nat) (l : List Ev),M[p]? = some l → (∀ y ∈ l,evC y = 0) →
  (nI q (M.set p (l ++ [x]))).Perm (nI q M ++ takeC q x (bz q (ej (-1) l)) (decide (0 ≤ ej (-1) l))) ∧ pb q (M.set p (l ++ [x])) = pb q M + takeN q x (bz q (ej (-1) l)) (decide (0 ≤ ej (-1) l))
 | [],p,l,h,_ => by simp at h
 | m :: M,0,l,h,hx => by
  simp only [List.getElem?_cons_zero,Option.some.injEq] at h;subst h;obtain ⟨e1,e2⟩:=part_more hx hx0 (q:=q);rw [List.set_cons_zero,eK,eK,eI,eI,e1,e2];refine ⟨?_,by omega⟩;rw [List.append_assoc,List.append_assoc];exact List.perm_append_comm.append_left _
 | m :: M,p + 1,l,h,hx => by
  simp only [List.getElem?_cons_succ] at h;obtain ⟨e1,e2⟩:=gF hx0 M p l h hx (q:=q);rw [List.set_cons_succ,eK,eK,eI,eI,e2];refine ⟨?_,by omega⟩;rw [List.append_assoc];exact e1.append_left _
end Go.Proofs.YtcgjflamgnjhcaaGreatDoor

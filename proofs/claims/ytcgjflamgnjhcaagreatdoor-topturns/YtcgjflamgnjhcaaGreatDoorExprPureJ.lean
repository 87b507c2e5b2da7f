/- Own texts in one. Conditions: as named in each. -/
import Derived.Test.YtcgjflamgnjhcaaGreatDoorVals3J
import Derived.Test.YtcgjflamgnjhcaaGreatDoorKinJ
import Derived.OwnWalk
import Derived.Deep.DeepMust
import Derived.Deep.Slices
set_option linter.unusedVariables false
set_option linter.unusedSimpArgs false
set_option maxRecDepth 100000
set_option maxHeartbeats 8000000
namespace Go.Proofs.YtcgjflamgnjhcaaGreatDoor
structure Nd where
 op:Int
 x:Int
 y:Int
 n:Int
 k:Int
 v:Int
deriving DecidableEq
abbrev V2:=Int×Int
def ar (op:Int):Int:=if op=1∨op=2 then 0 else if 3≤op∧op≤5 then 1 else if 6≤op∧op≤12 then 2 else -1
theorem qi (op:Int):ar op≤2:=by unfold ar;(repeat' split);all_goals omega
def qI (k n:Int):Bool:=decide ((k=0∧n=0)∨(k=1∧-1000000000≤n∧n≤1000000000)∨(k=2∧(n=0∨n=1)))
def lG (n:Nd):Prop:=ar n.op < 0∨(n.op≠1∧¬ (n.k=0∧n.v=0))∨(n.op≠2∧n.n≠0)∨(ar n.op < 2∧n.y≠0)∨(ar n.op < 1∧n.x≠0)
instance (n:Nd):Decidable (lG n):=by unfold lG;infer_instance
def okN (n:Nd):Int:=if lG n then 3 else if n.n < 0∨4≤n.n then 1 else if qI n.k n.v then 0 else 3
def ee (bs:List Nat) (b:Nat) (p:Int):Option Nat:=if b=0∨p≠(b:Int) - 1 then none else some (bs.getD (b - 1) 0)
def lh (n:Nd) (bs:List Nat):Option Nat :=
 if ar n.op=1 then ee bs bs.length n.x else if ar n.op=2 then (ee bs bs.length n.y).bind (fun b=>ee bs b n.x) else some bs.length
def chkF:List Nd→List Nat→Int×List Nat
 | [],bs=>(0,bs)
 | n :: l,bs=>if okN n≠0 then (okN n,bs) else match lh n bs with
  | none=>(3,bs)
  | some b=>chkF l (bs++[b])
def kW (l:List Nd):Int :=
 if 40 < l.length then 2 else if (chkF l []).1≠0 then (chkF l []).1 else if l.length=0∨(chkF l []).2.getD (l.length - 1) 0≠0 then 3 else 0
def kh (l:List Nd) (bs:List Nat):Prop :=
 bs.length=l.length∧∀ i n,l[i]?=some n→okN n=0∧∃ b,bs[i]?=some b∧lh n (bs.take i)=some b
theorem good_nil:kh [] []:=⟨rfl,by simp⟩
theorem gO {l:List Nd} {bs:List Nat} {n:Nd} {b:Nat} (h:kh l bs) (h1:okN n=0) (h2:lh n bs=some b):kh (l++[n]) (bs++[b]):=by
 refine ⟨by simp [h.1],fun i m hi=>?_⟩
 by_cases hl:i < l.length
 ·rw [List.getElem?_append_left hl] at hi;obtain ⟨a1,c,a2,a3⟩:=h.2 i m hi;exact ⟨a1,c,by rw [List.getElem?_append_left (by rw [h.1];exact hl),a2],by rw [List.take_append_of_le_length (by rw [h.1];omega),a3]⟩
 ·rw [List.getElem?_append_right (by omega)] at hi;have e:i=l.length:=by
   have:=(List.getElem?_eq_some_iff.1 hi).1
   simp at this;omega
  subst e;simp at hi;subst hi;exact ⟨h1,b,by rw [List.getElem?_append_right (by rw [h.1];exact Nat.le_refl _),h.1];simp,by rw [← h.1];simpa using h2⟩
theorem chkF_good:∀ (l pre:List Nd) (bs bs':List Nat),kh pre bs→chkF l bs=(0,bs')→kh (pre++l) bs'
 | [],pre,bs,bs',h,e=>by simp [chkF] at e;subst e;simpa using h
 | n :: l,pre,bs,bs',h,e=>by
  unfold chkF at e
  by_cases h0:okN n=0
  ·rw [if_neg (by simpa using h0)] at e;cases hb:lh n bs with
   | none=>rw [hb] at e;simp at e
   | some b =>
    rw [hb] at e
    have:=chkF_good l (pre++[n]) (bs++[b]) bs' (gO h h0 hb) e
    simpa using this
  ·rw [if_pos h0] at e;simp at e;exact absurd e.1 h0
theorem good_of_chk {l:List Nd} (h:kW l=0):∃ bs,kh l bs∧l.length≤40∧0 < l.length∧bs[l.length - 1]?=some 0:=by
 unfold kW at h
 by_cases h1:40 < l.length
 ·simp [h1] at h
 rw [if_neg h1] at h
 by_cases h2:(chkF l []).1=0
 ·rw [if_neg (by simpa using h2)] at h
  by_cases h3:l.length=0∨(chkF l []).2.getD (l.length - 1) 0≠0
  ·rw [if_pos h3] at h;exact absurd h (by decide)
  ·have g:=chkF_good l [] [] (chkF l []).2 good_nil (by rw [← h2]);simp only [List.nil_append] at g;refine ⟨_,g,by omega,by omega,?_⟩;have h4:(chkF l []).2.getD (l.length - 1) 0=0:=by
    by_cases hh:(chkF l []).2.getD (l.length - 1) 0=0
    ·exact hh
    ·exact absurd (Or.inr hh) h3
   have hl:l.length - 1 < (chkF l []).2.length:=by rw [g.1];omega
   rw [List.getD_eq_getElem?_getD,List.getElem?_eq_getElem hl] at h4;rw [List.getElem?_eq_getElem hl]
   simpa using h4
 ·rw [if_pos h2] at h;exact absurd h h2
theorem cZ {bs:List Nat} {b c:Nat} {p:Int} (h:ee bs b p=some c):0 < b∧p=(b:Int) - 1∧c=bs.getD (b - 1) 0:=by
 unfold ee at h
 by_cases hc:b=0∨p≠(b:Int) - 1
 ·simp [hc] at h
 ·rw [if_neg hc] at h;simp only [Option.some.injEq] at h;exact ⟨by omega,by omega,h.symm⟩
theorem fw (bs:List Nat) (i j:Nat) (h:j < i):(bs.take i).getD j 0=bs.getD j 0:=by
 rw [List.getD_eq_getElem?_getD,List.getD_eq_getElem?_getD,List.getElem?_take_of_lt h]
theorem mm {l:List Nd} {bs:List Nat} (h:kh l bs) {i:Nat} {n:Nd} (hi:l[i]?=some n) :
  okN n=0∧0≤ar n.op ∧
  (ar n.op=0→bs.getD i 0=i) ∧
  (ar n.op=1→0 < i∧n.x=(i:Int) - 1∧bs.getD i 0=bs.getD (i - 1) 0) ∧
  (ar n.op=2→0 < i∧n.y=(i:Int) - 1∧0 < bs.getD (i - 1) 0∧n.x=(bs.getD (i - 1) 0:Int) - 1∧bs.getD i 0=(bs.take i).getD (bs.getD (i - 1) 0 - 1) 0):=by
 have hl:=(List.getElem?_eq_some_iff.1 hi).1;obtain ⟨h0,b,h1,h2⟩:=h.2 i n hi;have hb:bs.getD i 0=b:=by rw [List.getD_eq_getElem?_getD,h1];rfl
 have hlen:(bs.take i).length=i:=by rw [List.length_take,h.1];omega
 have ha:0≤ar n.op:=by
  unfold okN at h0
  by_cases hh:lG n
  ·simp [hh] at h0
  ·unfold lG at hh;omega
 unfold lh at h2;refine ⟨h0,ha,fun a=>?_,fun a=>?_,fun a=>?_⟩
 ·rw [if_neg (by omega),if_neg (by omega),hlen] at h2;simp at h2;rw [hb];exact h2.symm
 ·rw [if_pos a,hlen] at h2;obtain ⟨c1,c2,c3⟩:=cZ h2;exact ⟨c1,c2,by rw [hb,c3,fw _ _ _ (by omega)]⟩
 ·rw [if_neg (by omega),if_pos a,hlen] at h2;cases hs:ee (bs.take i) i n.y with
  | none=>rw [hs] at h2;simp at h2
  | some c =>
   rw [hs] at h2;simp at h2;obtain ⟨c1,c2,c3⟩:=cZ hs;obtain ⟨d1,d2,d3⟩:=cZ h2;rw [fw _ _ _ (by omega)] at c3;subst c3;exact ⟨c1,c2,d1,d2,by rw [hb,d3]⟩
theorem pl {l:List Nd} {bs:List Nat} (h:kh l bs):∀ (i:Nat),i < l.length→bs.getD i 0≤i:=by
 intro i
 induction i using Nat.strongRecOn with
 | ind i ih =>
  intro hi;obtain ⟨-,a0,a1,a2,a3⟩:=mm h (List.getElem?_eq_getElem hi)
  have:=qi l[i].op
  rcases (by omega:ar l[i].op=0∨ar l[i].op=1∨ar l[i].op=2) with e | e | e
  ·rw [a1 e];exact Nat.le_refl _
  ·obtain ⟨b1,-,b2⟩:=a2 e;rw [b2]
   have:=ih (i - 1) (by omega) (by omega)
   omega
  ·obtain ⟨b1,-,b2,-,b4⟩:=a3 e;have c:=ih (i - 1) (by omega) (by omega);rw [b4,fw _ _ _ (by omega)]
   have:=ih (bs.getD (i - 1) 0 - 1) (by omega) (by omega)
   omega
theorem good_part {l:List Nd} {bs:List Nat} (h:kh l bs) {i:Nat} {n:Nd} (hi:l[i]?=some n) :
  (1≤ar n.op→0≤n.x∧n.x < i∧bs.getD n.x.toNat 0=bs.getD i 0)∧(ar n.op=2→n.y=(i:Int) - 1∧0 < i∧(bs.getD (i - 1) 0:Int)=n.x+1):=by
 have hl:=(List.getElem?_eq_some_iff.1 hi).1;obtain ⟨-,a0,a1,a2,a3⟩:=mm h hi;have hle:=pl h
 have:=qi n.op
 refine ⟨fun a=>?_,fun a=>?_⟩
 ·rcases (by omega:ar n.op=1∨ar n.op=2) with e | e
  ·obtain ⟨b1,b2,b3⟩:=a2 e;refine ⟨by omega,by omega,?_⟩;rw [b3,b2]
   congr 1
   omega
  ·obtain ⟨b1,b2,b3,b4,b5⟩:=a3 e;have c:=hle (i - 1) (by omega);refine ⟨by omega,by omega,?_⟩;rw [b5,fw _ _ _ (by omega),b4]
   congr 1
   omega
 ·obtain ⟨b1,b2,b3,b4,b5⟩:=a3 a;exact ⟨b2,b1,by omega⟩
def mv (by_:Int) (n:Nd):Nd:=if ar n.op=1 then { n with x:=n.x+by_ } else if ar n.op=2 then { n with x:=n.x+by_,y:=n.y+by_ } else n
theorem mv_op (c:Int) (n:Nd):(mv c n).op=n.op:=by unfold mv;(repeat' split);all_goals rfl
theorem mv_zero (n:Nd):mv 0 n=n:=by unfold mv;(repeat' split);all_goals simp
theorem jd (l:List Nd):l.map (mv 0)=l:=by
 induction l with
 | nil=>rfl
 | cons a l ih=>simp [mv_zero,ih]
theorem mv_ok (c:Int) (n:Nd):okN (mv c n)=okN n:=by
 unfold mv
 by_cases h1:ar n.op=1
 ·simp [h1,okN,lG]
 ·by_cases h2:ar n.op=2
  ·simp [h2,okN,lG]
  ·simp [h1,h2]
theorem jY (B bs:List Nat) (b:Nat) (p:Int) (hb:b≤bs.length) (h:∃ c,ee bs b p=some c) :
  ee (B++bs.map (·+B.length)) (b+B.length) (p+B.length)=(ee bs b p).map (·+B.length):=by
 obtain ⟨c,h⟩:=h;obtain ⟨c1,c2,c3⟩:=cZ h;rw [h];unfold ee;rw [if_neg (by omega)];simp only [Option.map_some,Option.some.injEq];rw [c3,List.getD_eq_getElem?_getD,List.getD_eq_getElem?_getD,List.getElem?_append_right (by omega),show b+B.length - 1 - B.length=b - 1 from by omega,List.getElem?_map,List.getElem?_eq_getElem (by omega)]
 rfl
theorem begN_mv (B bs:List Nat) (n:Nd) (c:Nat) (hle:∀ j,j < bs.length→bs.getD j 0≤j) (h:lh n bs=some c):lh (mv B.length n) (B++bs.map (·+B.length))=some (c+B.length):=by
 have hop:=mv_op B.length n;have hlen:(B++bs.map (·+B.length)).length=bs.length+B.length:=by simp;omega
 unfold lh at h ⊢;rw [hop,hlen]
 by_cases h1:ar n.op=1
 ·rw [if_pos h1] at h ⊢;have e:(mv B.length n).x=n.x+B.length:=by unfold mv;rw [if_pos h1]
  rw [e,jY B bs _ _ (Nat.le_refl _) ⟨c,h⟩,h]
  rfl
 ·rw [if_neg h1] at h ⊢
  by_cases h2:ar n.op=2
  ·rw [if_pos h2] at h ⊢;have e:(mv B.length n).x=n.x+B.length:=by unfold mv;rw [if_neg h1,if_pos h2]
   have e':(mv B.length n).y=n.y+B.length:=by unfold mv;rw [if_neg h1,if_pos h2]
   cases hs:ee bs bs.length n.y with
   | none=>rw [hs] at h;simp at h
   | some d =>
    rw [hs] at h;simp at h;rw [e,e',jY B bs _ _ (Nat.le_refl _) ⟨d,hs⟩,hs];simp only [Option.map_some,Option.bind_some];obtain ⟨c1,c2,c3⟩:=cZ hs;have hd:d≤bs.length:=by
     have:=hle (bs.length - 1) (by omega)
     omega
    rw [jY B bs d _ hd ⟨c,h⟩,h]
    rfl
  ·rw [if_neg h2] at h ⊢;simp at h
   simp [h]
theorem good_join {l m:List Nd} {bl bm:List Nat} (h1:kh l bl) (h2:kh m bm):kh (l++m.map (mv l.length)) (bl++bm.map (·+l.length)):=by
 refine ⟨by simp [h1.1,h2.1],fun i n hi=>?_⟩
 by_cases hl:i < l.length
 ·rw [List.getElem?_append_left hl] at hi;obtain ⟨a1,c,a2,a3⟩:=h1.2 i n hi;exact ⟨a1,c,by rw [List.getElem?_append_left (by rw [h1.1];exact hl),a2],by rw [List.take_append_of_le_length (by rw [h1.1];omega),a3]⟩
 ·rw [List.getElem?_append_right (by omega),List.getElem?_map] at hi;cases hm:m[i - l.length]? with
  | none=>rw [hm] at hi;simp at hi
  | some n' =>
   rw [hm] at hi;simp at hi;subst hi;obtain ⟨a1,c,a2,a3⟩:=h2.2 _ n' hm;have hlm:=(List.getElem?_eq_some_iff.1 hm).1;refine ⟨by rw [mv_ok,a1],c+l.length,by rw [List.getElem?_append_right (by rw [h1.1];omega),h1.1,List.getElem?_map,a2];rfl,?_⟩;rw [List.take_append,List.take_of_length_le (by rw [h1.1];omega),h1.1,← List.map_take]
   have:=begN_mv bl (bm.take (i - l.length)) n' c (fun j hj=>by
    have hj':j < i - l.length:=by
     have:=List.length_take_le (i - l.length) bm
     omega
    rw [fw _ _ _ hj'];exact pl h2 j (by omega)) a3
   rw [h1.1] at this;exact this
def nth (vs:List V2) (at_:Int):V2:=if at_ < 0∨(vs.length:Int)≤at_ then (0,0) else vs.getD at_.toNat (0,0)
def evN (O:Int→V2→V2→V2) (ev:List V2) (n:Nd) (vs:List V2):V2 :=
 if n.op=1 then (n.k,n.v) else if n.op=2 then nth ev n.n else if ar n.op=1 then O n.op (nth vs n.x) (0,0) else O n.op (nth vs n.x) (nth vs n.y)
def evF (O:Int→V2→V2→V2) (ev:List V2):List Nd→List V2→List V2
 | [],vs=>vs
 | n :: l,vs=>evF O ev l (vs++[evN O ev n vs])
def evL (O:Int→V2→V2→V2) (ev:List V2) (l:List Nd):V2:=nth (evF O ev l []) ((l.length:Int) - 1)
theorem o5 (O:Int→V2→V2→V2) (ev:List V2):∀ (l m:List Nd) (vs:List V2),evF O ev (l++m) vs=evF O ev m (evF O ev l vs)
 | [],m,vs=>rfl
 | n :: l,m,vs=>by simp only [List.cons_append,evF];exact o5 O ev l m _
theorem oS (O:Int→V2→V2→V2) (ev:List V2):∀ (l:List Nd) (vs:List V2),(evF O ev l vs).length=vs.length+l.length
 | [],vs=>rfl
 | n :: l,vs=>by simp only [evF];rw [oS O ev l];simp;omega
def gD (op:Int) (l m:List Nd):List Nd:=l++m.map (mv l.length)++[⟨op,(l.length:Int) - 1,(l.length:Int)+m.length - 1,0,0,0⟩]
def fF (op:Int) (l:List Nd):List Nd:=l++[⟨op,(l.length:Int) - 1,0,0,0,0⟩]
theorem qm {op:Int} (h:1≤ar op):op≠1∧op≠2:=by
 constructor <;> (intro e;rw [e] at h;exact absurd h (by decide))
theorem nth_last (vs:List V2) (v:V2):nth (vs++[v]) ((vs.length+1:Nat) - 1:Int)=v:=by
 unfold nth;rw [if_neg (by simp;omega),List.getD_eq_getElem?_getD,show ((vs.length+1:Nat) - 1:Int).toNat=vs.length from by omega]
 simp
theorem ev_join1 (O:Int→V2→V2→V2) (ev:List V2) (op:Int) (l:List Nd) (ho:ar op=1) :
  evL O ev (fF op l)=O op (evL O ev l) (0,0):=by
 obtain ⟨n1,n2⟩:=qm (by omega:1≤ar op);unfold evL fF;rw [o5];simp only [evF];have hlen:(l++[(⟨op,(l.length:Int) - 1,0,0,0,0⟩:Nd)]).length=(evF O ev l []).length+1:=by simp [oS]
 rw [hlen,nth_last];unfold evN;rw [if_neg n1,if_neg n2,if_pos ho]
theorem okN_new (op x y:Int) (h:ar op=2):okN ⟨op,x,y,0,0,0⟩=0:=by
 have h1:=qm (by omega:1≤ar op);have hb:¬ lG ⟨op,x,y,0,0,0⟩:=by unfold lG;simp [h1.1,h1.2,h]
 unfold okN;rw [if_neg hb]
 rfl
theorem okN_new1 (op x:Int) (h:ar op=1):okN ⟨op,x,0,0,0,0⟩=0:=by
 have h1:=qm (by omega:1≤ar op);have hb:¬ lG ⟨op,x,0,0,0,0⟩:=by unfold lG;simp [h1.1,h1.2,h]
 unfold okN;rw [if_neg hb]
 rfl
theorem getD_of {bs:List Nat} {i b:Nat} (h:bs[i]?=some b):bs.getD i 0=b:=by rw [List.getD_eq_getElem?_getD,h];rfl
theorem good_joinL {op:Int} {l m:List Nd} {bl bm:List Nat} (hl:kh l bl) (hm:kh m bm) (h0:0 < l.length) (h1:0 < m.length) (b0:bl[l.length - 1]?=some 0) (b1:bm[m.length - 1]?=some 0) (ho:ar op=2) :
  kh (gD op l m) (bl++bm.map (·+l.length)++[0]):=by
 refine gO (good_join hl hm) (okN_new _ _ _ ho) ?_;unfold lh
 simp only
 rw [if_neg (by omega),if_pos ho];have hlen:(bl++bm.map (·+l.length)).length=l.length+m.length:=by simp [hl.1,hm.1]
 rw [hlen];have s1:ee (bl++bm.map (·+l.length)) (l.length+m.length) ((l.length:Int)+m.length - 1)=some l.length:=by
  unfold ee;rw [if_neg (by omega)]
  congr 1
  rw [List.getD_eq_getElem?_getD,List.getElem?_append_right (by rw [hl.1];omega),hl.1,List.getElem?_map,show l.length+m.length - 1 - l.length=m.length - 1 from by omega,b1]
  simp
 rw [s1];simp only [Option.bind_some];unfold ee;rw [if_neg (by omega)]
 congr 1
 rw [List.getD_eq_getElem?_getD,List.getElem?_append_left (by rw [hl.1];omega),b0]
 rfl
theorem good_join1 {op:Int} {l:List Nd} {bl:List Nat} (hl:kh l bl) (h0:0 < l.length) (b0:bl[l.length - 1]?=some 0) (ho:ar op=1) :
  kh (fF op l) (bl++[0]):=by
 refine gO hl (okN_new1 _ _ ho) ?_;unfold lh
 simp only
 rw [if_pos ho,hl.1];unfold ee;rw [if_neg (by omega)]
 congr 1
 exact getD_of b0
theorem getD_last (bs:List Nat) (b:Nat):(bs++[b]).getD bs.length 0=b:=by
 rw [List.getD_eq_getElem?_getD]
 simp
def goes (op k:Int):Bool:=if op=4∨op=9∨op=10 then !(k == 1) else if op=5 then true else !(k == 2)
def kindN (n:Nd):Int:=if n.op=1 then n.k else if n.op=4∨n.op=5∨n.op=9∨n.op=10∨n.op=11∨n.op=12 then 2 else 1
def oD (op:Int) (ks:List Int) (p:Int):Bool:=if p < 0∨(ks.length:Int)≤p then false else goes op (ks.getD p.toNat 0)
def qA (n:Nd) (ks:List Int):Bool:=if ar n.op=1 then oD n.op ks n.x else if ar n.op=2 then (if oD n.op ks n.y then oD n.op ks n.x else false) else true
def tyF:List Nd→List Int→Option (List Int)
 | [],ks=>some ks
 | n :: l,ks=>if qA n ks then tyF l (ks++[kindN n]) else none
def tyE (l:List Nd):V2:=if l.length=0 then (0,3) else match tyF l [] with
 | none=>(0,3)
 | some ks=>(ks.getD (l.length - 1) 0,0)
end Go.Proofs.YtcgjflamgnjhcaaGreatDoor
namespace Go.Proofs.YtcgjflamgnjhcaaGreatDoor
open Go.ChangeShapes Go.WideShapes Go.ChangeAt Go.RowKit
theorem ch (op:Int) (w:World) :
  Calls Tryz.prog 184 #[.int .i64 op] w fun e w'=>e=.returned (.int .i64 (ar op))∧w'=w:=by
 by_cases h:1≤op∧op≤12
 ·rcases (by omega:op=1∨op=2∨op=3∨op=4∨op=5∨op=6∨op=7∨op=8∨op=9∨op=10∨op=11∨op=12) with rfl | rfl | rfl | rfl | rfl | rfl | rfl | rfl | rfl | rfl | rfl | rfl
  all_goals
   clear h
   go_enter Tryz.func184,Tryz.ntmps184
   go_wp2
   go_ret
   exact ⟨rfl,rfl⟩
 ·have e:ar op=-1:=by unfold ar;rw [if_neg (by omega),if_neg (by omega),if_neg (by omega)]
  rw [e];have h1:(op == 1)=false:=by simp;omega
  have h2:(op == 2)=false:=by simp;omega
  have h3:(op == 3)=false:=by simp;omega
  have h4:(op == 4)=false:=by simp;omega
  have h5:(op == 5)=false:=by simp;omega
  have h6:(op == 6)=false:=by simp;omega
  have h7:(op == 7)=false:=by simp;omega
  have h8:(op == 8)=false:=by simp;omega
  have h9:(op == 9)=false:=by simp;omega
  have h10:(op == 10)=false:=by simp;omega
  have h11:(op == 11)=false:=by simp;omega
  have h12:(op == 12)=false:=by simp;omega
  clear h e
  go_enter Tryz.func184,Tryz.ntmps184
  go_wp2
  go_ret
  exact ⟨rfl,rfl⟩
def fV (n:Nd):Value:=.agg #[.int .i64 n.op,.int .i64 n.x,.int .i64 n.y,.int .i64 n.n,.int .i64 n.k,.int .i64 n.v]
def cS (n:Nd):List Value:=[.int .i64 n.op,.int .i64 n.x,.int .i64 n.y,.int .i64 n.n,.int .i64 n.k,.int .i64 n.v]
def partsN (n:Nd):List Int:=if ar n.op=1 then [n.x] else if ar n.op=2 then [n.y,n.x] else []
theorem gw (n:Nd) (w:World) :
  Calls Tryz.prog 185 #[fV n] w fun e w'=>∃ v,e=.returned v∧bT w' v 1 (partsN n).length ((partsN n).map (Value.int .i64))∧Below w.heap.size w w':=by
 obtain ⟨op,x,y,nn,k,v⟩:=n;unfold fV partsN
 simp only
 by_cases h1:ar op=1
 ·have b1:(ar op == 1)=true:=by simp [h1]
  rw [if_pos h1];clear h1
  go_enter Tryz.func185,Tryz.ntmps185
  go_wp2_with (go_at_call 184;refine (ch _ _).mono ?_;rintro e w' ⟨rfl,rfl⟩)
  go_ret
  exact ⟨_,rfl,nt _ _ [.int .i64 x] _ 1 (by simp) rfl (by decide),((Below.refl _ _).alloc (Nat.le_refl _) _).alloc (by simp) _⟩
 ·have b1:(ar op == 1)=false:=by simp [h1]
  rw [if_neg h1];clear h1
  by_cases h2:ar op=2
  ·have b2:(ar op == 2)=true:=by simp [h2]
   rw [if_pos h2];clear h2
   go_enter Tryz.func185,Tryz.ntmps185
   go_wp2_with (go_at_call 184;refine (ch _ _).mono ?_;rintro e w' ⟨rfl,rfl⟩)
   go_ret
   exact ⟨_,rfl,nt _ _ [.int .i64 y,.int .i64 x] _ 2 (by simp) rfl (by decide),((Below.refl _ _).alloc (Nat.le_refl _) _).alloc (by simp) _⟩
  ·have b2:(ar op == 2)=false:=by simp [h2]
   rw [if_neg h2];clear h2
   go_enter Tryz.func185,Tryz.ntmps185
   go_wp2_with (go_at_call 184;refine (ch _ _).mono ?_;rintro e w' ⟨rfl,rfl⟩)
   go_ret
   exact ⟨_,rfl,⟨rfl,.inl ⟨⟨_,_,rfl⟩,rfl⟩⟩,(Below.refl _ _).alloc (Nat.le_refl _) _⟩
end Go.Proofs.YtcgjflamgnjhcaaGreatDoor
namespace Go.Proofs.YtcgjflamgnjhcaaGreatDoor
open Go.ChangeShapes Go.WideShapes Go.ChangeAt Go.RowKit
attribute [local go_sem ↓] cI cD
def errC (c:Int):Value:=if c=0 then .nilIface else .iface 93 (.int .i64 c)
theorem jR (k n:Int) (w:World) :
  Calls Tryz.prog 122 #[.agg #[.int .i64 k,.int .i64 n]] w fun e w'=>e=.returned (errC (if vok k n then 0 else 3))∧Below w.heap.size w w':=by
 by_cases h:vok k n=true
 ·rw [if_pos h];exact lZ k n w h
 ·rw [if_neg h];exact no k n w (by simpa using h)
theorem vokB_is (k n:Int):qI k n=vok k n:=rfl
def okR (a op x y nn k v:Int):Int:=if (op≠2∧nn≠0)∨(a < 2∧y≠0)∨(a < 1∧x≠0) then 3 else if nn < 0∨4≤nn then 1 else if vok k v then 0 else 3
theorem qB (op x y nn k v:Int) (h1:¬ (ar op < 0)) (h2:¬ (op≠1∧¬ (k=0∧v=0))):okN ⟨op,x,y,nn,k,v⟩=okR (ar op) op x y nn k v:=by
 unfold okN okR lG;simp only [vokB_is];have:(ar op < 0∨(op≠1∧¬ (k=0∧v=0))∨(op≠2∧nn≠0)∨(ar op < 2∧y≠0)∨(ar op < 1∧x≠0))=((op≠2∧nn≠0)∨(ar op < 2∧y≠0)∨(ar op < 1∧x≠0)):=propext ⟨fun h=>h.elim (fun q=>absurd q h1) (fun h=>h.elim (fun q=>absurd q h2) id),fun h=>.inr (.inr h)⟩;simp only [this]
 rfl
theorem qC (op x y nn k v:Int) (h:ar op < 0∨(op≠1∧¬ (k=0∧v=0))):okN ⟨op,x,y,nn,k,v⟩=3:=by
 unfold okN lG
 simp only
 rw [if_pos (h.elim .inl (fun q=>.inr (.inl q)))]
theorem checkNode_any (n:Nd) (w:World) :
  Calls Tryz.prog 171 #[fV n] w fun e w'=>e=.returned (errC (okN n))∧Below w.heap.size w w':=by
 obtain ⟨op,x,y,nn,k,v⟩:=n;unfold fV
 simp only
 have HB:Hid (Below (w.alloc (.cells #[.int .i64 op,.int .i64 x,.int .i64 y,.int .i64 nn,.int .i64 k,.int .i64 v] 153)).heap.size (w.alloc (.cells #[.int .i64 op,.int .i64 x,.int .i64 y,.int .i64 nn,.int .i64 k,.int .i64 v] 153)) (w.alloc (.cells #[.int .i64 op,.int .i64 x,.int .i64 y,.int .i64 nn,.int .i64 k,.int .i64 v] 153))):=Below.refl _ _;have H0:Hid (Below w.heap.size w (w.alloc (.cells #[.int .i64 op,.int .i64 x,.int .i64 y,.int .i64 nn,.int .i64 k,.int .i64 v] 153))):=(Below.refl _ _).alloc (Nat.le_refl _) _;have kn:=bG (w.alloc (.cells #[.int .i64 op,.int .i64 x,.int .i64 y,.int .i64 nn,.int .i64 k,.int .i64 v] 153));obtain ⟨kc,kf⟩:=bn (w.alloc (.cells #[.int .i64 op,.int .i64 x,.int .i64 y,.int .i64 nn,.int .i64 k,.int .i64 v] 153))
 by_cases ha:ar op < 0
 ·rw [qC op x y nn k v (.inl ha)]
  go_enter Tryz.func171,Tryz.ntmps171
  go_wp2_with (go_at_call 184;refine (ch _ _).mono ?_;rintro e w' ⟨rfl,rfl⟩)
  go_ret
  exact ⟨rfl,H0.out⟩
 ·have da:decide (ar op < 0)=false:=by simpa using ha
  by_cases h1:op=1
  ·have e1:=qB op x y nn k v ha (fun q=>q.1 h1);rw [e1];have b1:(op != 1)=false:=by simp [h1]
   have HE:=aa e1;clear e1 ha h1;have HA:=aa (fun w=>ch op w);generalize ar op=a at *;generalize hR:okR a op x y nn k v=R;have HR:=aa hR;clear hR
   go_enter Tryz.func171,Tryz.ntmps171
   go_wp2_with (go_at_call 184;refine (HA.out _).mono ?_;rintro e w' ⟨rfl,rfl⟩)
   refine aD HB (by kernel_rfl) (by kernel_rfl) ?_
   repeat (go_big_quiet_step ((go_at_call 125;exact co (cX _))))
   refine wpQuiet_nil ?_;rintro _ ⟨p,rfl⟩;have HB:Hid _:=p.h
   go_wp2_with (go_at_call 122;refine (jR _ _ _).mono ?_;rintro e w1 ⟨rfl,hb⟩;have HB:=nxt HB hb;clear hb)
   all_goals
    go_ret
    refine ⟨?_,done H0.out HB⟩;clear HB H0 kc kf kn HE;have hR:=HR.out;clear HR
    first
    |(exfalso
      simp only [bne_iff_ne,ne_eq,bne_eq_false_iff_eq] at *;omega)
    |(have hv:R=3:=by
       rw [← hR];unfold okR;simp only [bne_iff_ne,ne_eq,bne_eq_false_iff_eq] at *;rw [if_pos (by omega)]
      rw [hv];rfl)
    |(have hv:R=1:=by
       rw [← hR];unfold okR;simp only [bne_iff_ne,ne_eq,bne_eq_false_iff_eq] at *;rw [if_neg (by omega),if_pos (by omega)]
      rw [hv];rfl)
    |(have hv:R=(if vok k v then 0 else 3):=by
       rw [← hR];unfold okR;simp only [bne_iff_ne,ne_eq,bne_eq_false_iff_eq] at *;rw [if_neg (by omega),if_neg (by omega)]
      rw [hv]
      first | rfl | (rw [if_pos (by assumption)];rfl) | (rw [if_neg (by assumption)];rfl))
  ·have b1:(op != 1)=true:=by simp [h1]
   by_cases h2:k=0∧v=0
   ·have e1:=qB op x y nn k v ha (fun q=>q.2 h2);rw [e1];have bk:(k == 0 && v == 0)=true:=by simp [h2]
    have HE:=aa e1;clear e1 ha h1 h2;have HA:=aa (fun w=>ch op w);generalize ar op=a at *;generalize hR:okR a op x y nn k v=R;have HR:=aa hR;clear hR
    go_enter Tryz.func171,Tryz.ntmps171
    go_wp2_with (go_at_call 184;refine (HA.out _).mono ?_;rintro e w' ⟨rfl,rfl⟩)
    refine aD HB (by kernel_rfl) (by kernel_rfl) ?_
    repeat (go_big_quiet_step ((go_at_call 125;exact co (cX _))))
    refine wpQuiet_nil ?_;rintro _ ⟨p,rfl⟩;have HB:Hid _:=p.h
    go_wp2_with (go_at_call 122;refine (jR _ _ _).mono ?_;rintro e w1 ⟨rfl,hb⟩;have HB:=nxt HB hb;clear hb)
    all_goals
     go_ret
     refine ⟨?_,done H0.out HB⟩;clear HB H0 kc kf kn HE;have hR:=HR.out;clear HR
     first
     |(exfalso
       simp only [bne_iff_ne,ne_eq,bne_eq_false_iff_eq] at *;omega)
     |(have hv:R=3:=by
        rw [← hR];unfold okR;simp only [bne_iff_ne,ne_eq,bne_eq_false_iff_eq] at *;rw [if_pos (by omega)]
       rw [hv];rfl)
     |(have hv:R=1:=by
        rw [← hR];unfold okR;simp only [bne_iff_ne,ne_eq,bne_eq_false_iff_eq] at *;rw [if_neg (by omega),if_pos (by omega)]
       rw [hv];rfl)
     |(have hv:R=(if vok k v then 0 else 3):=by
        rw [← hR];unfold okR;simp only [bne_iff_ne,ne_eq,bne_eq_false_iff_eq] at *;rw [if_neg (by omega),if_neg (by omega)]
       rw [hv]
       first | rfl | (rw [if_pos (by assumption)];rfl) | (rw [if_neg (by assumption)];rfl))
   ·rw [qC op x y nn k v (.inr ⟨h1,h2⟩)];have bk:(k == 0 && v == 0)=false:=by simp;omega
    clear ha h1 h2
    go_enter Tryz.func171,Tryz.ntmps171
    go_wp2_with (go_at_call 184;refine (ch _ _).mono ?_;rintro e w' ⟨rfl,rfl⟩)
    refine aD HB (by kernel_rfl) (by kernel_rfl) ?_
    repeat (go_big_quiet_step ((go_at_call 125;exact co (cX _))))
    refine wpQuiet_nil ?_;rintro _ ⟨p,rfl⟩;have HB:Hid _:=p.h;go_wp2_with fail
    go_ret
    exact ⟨rfl,done H0.out HB⟩
end Go.Proofs.YtcgjflamgnjhcaaGreatDoor
namespace Go.Proofs.YtcgjflamgnjhcaaGreatDoor
open Go.ChangeShapes Go.WideShapes Go.ChangeAt Go.RowKit
def qu (b:Nat):Value:=.int .i64 (b:Int)
def jg (bs:List Nat):Nat→List Int→Option Nat
 | b,[]=>some b
 | b,p :: ps=>(ee bs b p).bind fun c=>jg bs c ps
theorem stepsB_is (n:Nd) (bs:List Nat):jg bs bs.length (partsN n)=lh n bs:=by
 unfold partsN lh
 by_cases h1:ar n.op=1
 ·rw [if_pos h1,if_pos h1];simp only [jg];cases ee bs bs.length n.x <;> rfl
 ·rw [if_neg h1,if_neg h1]
  by_cases h2:ar n.op=2
  ·rw [if_pos h2,if_pos h2];simp only [jg]
   congr 1
   funext b
   cases ee bs b n.x <;> rfl
  ·rw [if_neg h2,if_neg h2]
   rfl
def begV:Option Nat→Value
 | none=>.tuple #[.int .i64 0,.bool false]
 | some b=>.tuple #[.int .i64 (b:Int),.bool true]
theorem beginOf_any (n:Nd) (bs:List Nat) (v:Value) (w:World) (hl:bs.length≤50) (hr:bT w v 1 bs.length (bs.map qu)) (hle:∀ j,j < bs.length→bs.getD j 0≤j) :
  Calls Tryz.prog 172 #[fV n,v] w fun e w'=>e=.returned (begV (lh n bs))∧Below w.heap.size w w':=by
 obtain ⟨ao,cap,rfl⟩:=aq hr;have HR:=aa hr;have HLE:=aa hle;clear hr hle;rw [← stepsB_is];have H0:Hid (Below w.heap.size w (w.alloc (.cells #[.int .i64 n.op,.int .i64 n.x,.int .i64 n.y,.int .i64 n.n,.int .i64 n.k,.int .i64 n.v] 153))):=(Below.refl _ _).alloc (Nat.le_refl _) _;have HL:=aa (gw n (w.alloc (.cells #[.int .i64 n.op,.int .i64 n.x,.int .i64 n.y,.int .i64 n.n,.int .i64 n.k,.int .i64 n.v] 153)));have h2:(partsN n).length≤2:=by unfold partsN;(repeat' split);all_goals simp
 unfold fV at HL ⊢;generalize hT:jg bs bs.length (partsN n)=T;have HT:=aa hT;clear hT;generalize partsN n=ps at *
 go_enter Tryz.func172,Tryz.ntmps172
 go_wp2_with fail;refine HL.out.mono ?_;rintro e w1 ⟨u,rfl,hr,hb⟩;obtain ⟨ao1,cap1,rfl⟩:=aq hr;have HB:=aa (H0.out.trans (hb.mono H0.out.size));have HR:=aa (aA HR.out HB.out);have HP:=aa hr;clear hr hb HL H0;go_wp2_with fail
 go_loop [6,14] (fun b i=>∃ (m c:Nat),m≤ps.length∧c≤bs.length∧i=.int .i64 m∧b=.int .i64 c∧Hid (jg bs c (ps.drop m)=T)) (fun _ i=>ps.length - (intOf i).toNat)
 case atStart=>exact ⟨0,bs.length,Nat.zero_le _,Nat.le_refl _,rfl,rfl,HT⟩
 case round =>
  clear HT;obtain ⟨m,c,hm,hc,rfl,rfl,HS⟩:=hrel
  by_cases hlt:m < ps.length
  ·obtain ⟨g,off,x,rfl,hx,cx,l1,l2,l3⟩:=db HP.out m hlt;rw [List.getElem?_map,List.getElem?_eq_getElem hlt] at hx;simp only [Option.map_some,Option.some.injEq] at hx;subst hx;have hS:=HS.out;rw [List.drop_eq_getElem_cons hlt] at hS;generalize ps[m]=p at *;simp only [jg] at hS;unfold maxLen at l2
   by_cases h0:c=0
   ·have e:T=none:=by rw [← hS];unfold ee;rw [if_pos (Or.inl h0)];rfl
    subst e;have z:((c:Int) == 0)=true:=by simp [h0]
    clear hS h0 HS;go_wp2_with fail
    go_ret2
    exact ⟨rfl,HB.out⟩
   ·have z:((c:Int) == 0)=false:=by simp [h0]
    by_cases hp:p=(c:Int) - 1
    ·obtain ⟨d,rfl⟩:∃ d,c=d+1:=⟨c - 1,by omega⟩;have hp':p=(d:Int):=by omega
     subst hp';clear hp;have z2:((d:Int) != ((d+1:Nat):Int) - 1)=false:=by simp
     have hd:d < bs.length:=by omega
     obtain ⟨g2,off2,x2,rfl,hx2,cx2,l12,l22,l32⟩:=db HR.out d hd;rw [List.getElem?_map,List.getElem?_eq_getElem hd] at hx2;simp only [Option.map_some,Option.some.injEq,qu] at hx2;subst hx2;have hst:ee bs (d+1) (d:Int)=some bs[d]:=by
      unfold ee;rw [if_neg (by omega)]
      congr 1
      rw [List.getD_eq_getElem?_getD,Nat.add_sub_cancel,List.getElem?_eq_getElem hd];rfl
     rw [hst] at hS;simp only [Option.bind_some] at hS;have hbd:=HLE.out d hd;rw [List.getD_eq_getElem?_getD,List.getElem?_eq_getElem hd] at hbd;simp only [Option.getD_some] at hbd;have HS:=aa hS;clear hS hst h0;generalize bs[d]=q at *;unfold maxLen at l22;go_wp2_with fail
     go_round
     case rel=>exact ⟨m+1,q,by omega,by omega,by go_num,rfl,HS⟩
     case measure=>simp [intOf];omega
    ·have e:T=none:=by rw [← hS];unfold ee;rw [if_pos (Or.inr hp)];rfl
     subst e;have z2:(p != (c:Int) - 1)=true:=by simpa using hp
     clear hS h0 HS hp;go_wp2_with fail
     go_ret2
     exact ⟨rfl,HB.out⟩
  ·have e:T=some c:=by
    have:=HS.out
    rw [List.drop_eq_nil_of_le (by omega)] at this;exact this.symm
   subst e;go_wp2_with fail
   go_ret2
   exact ⟨rfl,HB.out⟩
def eT (l:List Nd):List Value:=l.flatMap cS
theorem gG (l m:List Nd):eT (l++m)=eT l++eT m:=by simp [eT]
theorem rowN_at:∀ (l:List Nd) (i j:Nat) (n:Nd),l[i]?=some n→j < 6→(eT l)[i * 6+j]?=(cS n)[j]?
 | [],i,j,n,h,_=>by simp at h
 | a :: l,0,j,n,h,hj=>by
  simp at h;subst h;have:eT (a :: l)=cS a++eT l:=rfl;rw [this,Nat.zero_mul,Nat.zero_add,List.getElem?_append_left (by simpa [cS] using hj)]
 | a :: l,i+1,j,n,h,hj=>by
  simp at h;have:eT (a :: l)=cS a++eT l:=rfl;rw [this,List.getElem?_append_right (by simp [cS];omega)];have hc:(cS a).length=6:=rfl;rw [hc,show (i+1) * 6+j - 6=i * 6+j from by omega];exact rowN_at l i j n h hj
def mL (w:World) (g o:Nat) (n:Nd):Prop :=
 w.cell? ⟨g,o,none⟩=some (.int .i64 n.op)∧w.cell? ⟨g,o+1,none⟩=some (.int .i64 n.x)∧w.cell? ⟨g,o+2,none⟩=some (.int .i64 n.y)∧w.cell? ⟨g,o+3,none⟩=some (.int .i64 n.n)∧w.cell? ⟨g,o+4,none⟩=some (.int .i64 n.k)∧w.cell? ⟨g,o+5,none⟩=some (.int .i64 n.v)
theorem gE {w:World} {l:List Nd} {ao:Option Addr} {cap:Nat} (h:bT w (.slice ao l.length cap) 6 l.length (eT l)) (i:Nat) (hi:i < l.length) :
  ∃ g off,ao=some ⟨g,off,none⟩∧mL w g (off+i * 6) l[i]∧l.length≤cap∧cap≤maxLen∧g < w.heap.size:=by
 obtain ⟨h0,h⟩:=h
 rcases h with ⟨-,h⟩ | ⟨g,off,cap',e,h1,h2,h3,h4⟩
 ·omega
 ·simp only [Value.slice.injEq] at e;obtain ⟨rfl,-,rfl⟩:=e;have hc:∀ j,j < 6→w.cell? ⟨g,off+i * 6+j,none⟩=(cS l[i])[j]?:=fun j hj=>by
   rw [Nat.add_assoc,h4 (i * 6+j) (by omega),rowN_at l i j l[i] (List.getElem?_eq_getElem hi) hj]
  exact ⟨g,off,rfl,⟨hc 0 (by omega),hc 1 (by omega),hc 2 (by omega),hc 3 (by omega),hc 4 (by omega),hc 5 (by omega)⟩,h1,h2,h3⟩
theorem eE {w w':World} {B g o:Nat} {n:Nd} (h:mL w g o n) (hb:Below B w w') (hg:g < B):mL w' g o n:=by
 have hc:=fun o=>hb.cell (p:=⟨g,o,none⟩) hg
 unfold mL;simp only [hc];exact h
theorem begN_le {n:Nd} {bs:List Nat} {b:Nat} (hle:∀ j,j < bs.length→bs.getD j 0≤j) (h:lh n bs=some b):b≤bs.length:=by
 unfold lh at h
 by_cases h1:ar n.op=1
 ·rw [if_pos h1] at h;obtain ⟨c1,c2,c3⟩:=cZ h
  have:=hle (bs.length - 1) (by omega)
  omega
 ·rw [if_neg h1] at h
  by_cases h2:ar n.op=2
  ·rw [if_pos h2] at h;cases hs:ee bs bs.length n.y with
   | none=>rw [hs] at h;simp at h
   | some d =>
    rw [hs] at h;simp only [Option.bind_some] at h;obtain ⟨c1,c2,c3⟩:=cZ hs;obtain ⟨d1,d2,d3⟩:=cZ h
    have:=hle (bs.length - 1) (by omega)
    have:=hle (d - 1) (by omega)
    omega
  ·rw [if_neg h2] at h;simp at h;omega
theorem le_snoc {bs:List Nat} {b:Nat} (hle:∀ j,j < bs.length→bs.getD j 0≤j) (h:b≤bs.length):∀ j,j < (bs++[b]).length→(bs++[b]).getD j 0≤j:=by
 intro j hj
 by_cases hl:j < bs.length
 ·rw [List.getD_eq_getElem?_getD,List.getElem?_append_left hl,← List.getD_eq_getElem?_getD];exact hle j hl
 ·have:j=bs.length:=by simp at hj;omega
  subst this;rw [getD_last];exact h
theorem check_few (l:List Nd) (v:Value) (w:World) (hl:l.length≤40) (hr:bT w v 6 l.length (eT l)) :
  Calls Tryz.prog 156 #[v] w fun e w'=>e=.returned (errC (kW l))∧Below w.heap.size w w':=by
 obtain ⟨ao,cap,rfl⟩:=aq hr;obtain ⟨i0,hi,hz0,hz1,hz2⟩:=info_parts infoI;have HR:=aa hr;clear hr;have hT:kW l=if (chkF l []).1≠0 then (chkF l []).1 else if l.length=0∨(chkF l []).2.getD (l.length - 1) 0≠0 then 3 else 0:=by unfold kW;rw [if_neg (by omega)]
 rw [hT];clear hT;generalize hF:chkF l []=T;have HF:=aa hF;clear hF;generalize hX:(if T.1≠0 then T.1 else if l.length=0∨T.2.getD (l.length - 1) 0≠0 then 3 else 0)=X;have HX:=aa hX;clear hX
 go_enter Tryz.func156,Tryz.ntmps156
 go_wp2_with (at_make;go_must (refine wpList_make_own _ rfl _ _ 56 rfl w.heap.size 3 i0 (.int .i64 0) 1 Tryz.underlying56 hi hz0 hz1 .i64 .i64 _ l.length rfl rfl rfl (by rw [hz2];omega) (by show _≤2 ^ 63 - 1;omega) (Nat.le_refl _) ?_))
 intro w0 ho0 hg0;have HB0:Hid (Below w.heap.size w w0):=(Below.refl _ _).grown hg0 (Nat.le_refl _) (fun k hk=>by cases hk);have HO0:=aa ho0;clear ho0 hg0;go_wp2_with fail
 go_loopw [3,18] (fun v i wr=>∃ (m:Nat) (bs:List Nat),m≤l.length∧bs.length=m∧i=.int .i64 m∧Hid (wr.ownsRow w.heap.size 3 1 v bs.length (bs.map qu))∧Hid (Below w.heap.size w wr)∧Hid (∀ j,j < bs.length→bs.getD j 0≤j)∧Hid (chkF (l.drop m) bs=T)) (fun _ i _=>l.length - (intOf i).toNat)
 case atStart=>exact ⟨0,[],Nat.zero_le _,rfl,rfl,HO0,HB0,fun j hj=>absurd hj (by simp),HF⟩
 case round =>
  clear HF HB0 HO0;obtain ⟨m,bs,hm,rfl,rfl,HO,HB,HLE,HS⟩:=hrel;obtain ⟨ao2,cap2,rfl⟩:=ax HO.out
  by_cases hlt:bs.length < l.length
  ·obtain ⟨g,off,rfl,hnode,l1,l2,l3⟩:=gE HR.out _ hlt;have hS:=HS.out;rw [List.drop_eq_getElem_cons hlt] at hS;generalize l[bs.length]=nd at *;obtain ⟨n0,n1,n2,n3,n4,n5⟩:=eE hnode HB.out l3;clear hnode;unfold maxLen at l2;unfold chkF at hS;go_wp2_with fail;refine (checkNode_any nd _).mono ?_;rintro e w1 ⟨rfl,hb1⟩;have hA:Below w.heap.size w (wr.alloc (.cells #[.int .i64 nd.op,.int .i64 nd.x,.int .i64 nd.y,.int .i64 nd.n,.int .i64 nd.k,.int .i64 nd.v] 153)):=HB.out.alloc HB.out.size _;have HB1:=aa (hA.trans (hb1.mono hA.size));have HO1:=aa (aC (HO.out.alloc _) hb1 (Nat.le_refl _));obtain ⟨hc1,hf1⟩:=bcell hb1;clear hA
   by_cases hok:okN nd=0
   ·have e0:errC (okN nd)=.nilIface:=by rw [hok];rfl
    rw [e0];rw [if_neg (by simpa using hok)] at hS;clear hb1 hok e0;go_wp2_with fail;refine (beginOf_any nd bs _ w1 (by omega) (aE HO1.out) HLE.out).mono ?_;rintro e w2 ⟨rfl,hb2⟩;have HB2:=aa (HB1.out.trans (hb2.mono HB1.out.size));have HO2:=aa (aC HO1.out hb2 (Nat.le_refl _));clear hb2 hc1 hf1 HB1 HO1;cases hbeg:lh nd bs with
    | none =>
     rw [hbeg] at hS;have hS':T=(3,bs):=hS.symm;subst hS';clear hS hbeg;unfold begV;go_wp2_with fail
     go_ret
     exact ⟨by rw [← HX.out];rfl,HB2.out⟩
    | some b =>
     rw [hbeg] at hS;have HS2:Hid (chkF (List.drop (bs.length+1) l) (bs++[b])=T):=hS;have hbl:=begN_le HLE.out hbeg;have HLE2:=aa (le_snoc HLE.out hbl);clear hS hbeg HS;unfold begV
     simp only
     go_wp2_with (at_builtin;go_must (refine wpList_append_own _ rfl (.tmp 36) (.tmp 38) 56 rfl w.heap.size 3 i0 (.int .i64 0) 1 8 Tryz.underlying56 hi hz0 hz1 hz2 rfl (by decide) _ _ _ rfl (HO2.out.alloc _) ⟨w2.heap.size,0,none⟩ 1 1 [.int .i64 (b:Int)] rfl rfl (eW _ _ _) (by intro u hu;simp at hu;subst hu;rfl) (by show _≤2 ^ 63 - 1;omega) (by omega) (by have:=HB2.out.size;simp;omega) ?_))
     intro v' w3 ho3 hg3 _;have ho4:w3.ownsRow w.heap.size 3 1 v' (bs++[b]).length ((bs++[b]).map qu):=by simpa [qu] using ho3
     have HO3:=aa ho4;clear ho4;have HB3:Hid (Below w.heap.size w w3):=(HB2.out.alloc HB2.out.size _).grown hg3 (by have:=HB2.out.size;simp;omega) (fun k hk=>(HO2.out.lt k hk).1);clear ho3 hg3;go_wp2_with fail;go_roundw
     case rel=>exact ⟨bs.length+1,bs++[b],by omega,by simp,by go_num,HO3,HB3,HLE2,HS2⟩
     case measure=>simp [intOf];omega
   ·rw [if_pos (by simpa using hok)] at hS;have hS':T=(okN nd,bs):=hS.symm;subst hS';have e0:errC (okN nd)=.iface 93 (.int .i64 (okN nd)):=by unfold errC;rw [if_neg hok]
    have hX:=HX.out;simp only [ne_eq,hok,not_false_eq_true,if_true] at hX;subst hX;have HE:=aa e0;rw [e0];clear hS hok e0 hc1 hf1 hb1 HX;go_wp2_with fail
    go_ret
    exact ⟨(congrArg Ending.returned HE.out).symm,HB1.out⟩
  ·have hml:bs.length=l.length:=by omega
   have hS:=HS.out;rw [List.drop_eq_nil_of_le (by omega)] at hS;unfold chkF at hS;subst hS;have hX:=HX.out;simp only [ne_eq,not_true_eq_false,if_false] at hX;clear HX
   by_cases hz:l.length=0
   ·have z:((l.length:Int) == 0)=true:=by simp [hz]
    rw [if_pos (Or.inl hz)] at hX;subst hX;clear hz;go_wp2_with fail
    go_ret
    exact ⟨rfl,HB.out⟩
   ·have z:((l.length:Int) == 0)=false:=by rw [beq_eq_false_iff_ne];omega
    obtain ⟨d,hd⟩:∃ d,l.length=d+1:=⟨l.length - 1,by omega⟩;have hdb:d < bs.length:=by omega
    obtain ⟨g2,off2,x2,rfl,hx2,cx2,l12,l22,l32⟩:=db (aE HO.out) d hdb;rw [List.getElem?_map,List.getElem?_eq_getElem hdb] at hx2;simp only [Option.map_some,Option.some.injEq,qu] at hx2;subst hx2;have hg:bs.getD (l.length - 1) 0=bs[d]:=by
     rw [List.getD_eq_getElem?_getD,hd,Nat.add_sub_cancel,List.getElem?_eq_getElem hdb];rfl
    rw [hg] at hX;have hd2:bs.length=d+1:=by omega
    generalize bs[d]=q at *;unfold maxLen at l22;clear hg hz HS
    by_cases hq:q=0
    ·have z2:((q:Int) != 0)=false:=by simp [hq]
     rw [if_neg (by rw [hq];omega)] at hX;subst hX;clear hq;go_wp2_with fail
     go_ret
     exact ⟨rfl,HB.out⟩
    ·have z2:((q:Int) != 0)=true:=by simp [hq]
     rw [if_pos (Or.inr hq)] at hX;subst hX;clear hq;go_wp2_with fail
     go_ret
     exact ⟨rfl,HB.out⟩
theorem check_any (l:List Nd) (v:Value) (w:World) (hl:l.length≤1000) (hr:bT w v 6 l.length (eT l)) :
  Calls Tryz.prog 156 #[v] w fun e w'=>e=.returned (errC (kW l))∧Below w.heap.size w w':=by
 by_cases h:l.length≤40
 ·exact check_few l v w h hr
 ·obtain ⟨ao,cap,rfl⟩:=aq hr;have e:kW l=2:=by unfold kW;rw [if_pos (by omega)]
  rw [e];have h4:(40:Int) < (l.length:Int):=by omega
  clear hr e h
  go_enter Tryz.func156,Tryz.ntmps156
  go_wp2_with fail
  go_ret
  exact ⟨rfl,Below.refl _ _⟩
end Go.Proofs.YtcgjflamgnjhcaaGreatDoor
namespace Go.Proofs.YtcgjflamgnjhcaaGreatDoor
open Go.ChangeShapes Go.WideShapes Go.ChangeAt Go.RowKit
attribute [local go_sem ↓] cI cD
def ex (p:V2):List Value:=[.int .i64 p.1,.int .i64 p.2]
def cB (l:List V2):List Value:=l.flatMap ex
def iI (p:V2):Value:=.agg #[.int .i64 p.1,.int .i64 p.2]
def okV (p:V2):Prop:=vok p.1 p.2=true
theorem kC (l:List V2):(cB l).length=l.length * 2:=by
 induction l with
 | nil=>rfl
 | cons a l ih =>
  have:cB (a :: l)=ex a++cB l:=rfl;rw [this,List.length_append,ih]
  simp [ex];omega
theorem rowV_app (l m:List V2):cB (l++m)=cB l++cB m:=by simp [cB]
theorem rowV_at:∀ (l:List V2) (i j:Nat) (n:V2),l[i]?=some n→j < 2→(cB l)[i * 2+j]?=(ex n)[j]?
 | [],i,j,n,h,_=>by simp at h
 | a :: l,0,j,n,h,hj=>by
  simp at h;subst h;have:cB (a :: l)=ex a++cB l:=rfl;rw [this,Nat.zero_mul,Nat.zero_add,List.getElem?_append_left (by simpa [ex] using hj)]
 | a :: l,i+1,j,n,h,hj=>by
  simp at h;have:cB (a :: l)=ex a++cB l:=rfl;rw [this,List.getElem?_append_right (by simp [ex];omega)];have hc:(ex a).length=2:=rfl;rw [hc,show (i+1) * 2+j - 2=i * 2+j from by omega];exact rowV_at l i j n h hj
theorem fJ {w:World} {l:List V2} {ao:Option Addr} {cap:Nat} (h:bT w (.slice ao l.length cap) 2 l.length (cB l)) (i:Nat) (hi:i < l.length) :
  ∃ g off,ao=some ⟨g,off,none⟩∧w.cell? ⟨g,off+i * 2,none⟩=some (.int .i64 l[i].1)∧w.cell? ⟨g,off+i * 2+1,none⟩=some (.int .i64 l[i].2)∧l.length≤cap∧cap≤maxLen∧g < w.heap.size:=by
 obtain ⟨h0,h⟩:=h
 rcases h with ⟨-,h⟩ | ⟨g,off,cap',e,h1,h2,h3,h4⟩
 ·omega
 ·simp only [Value.slice.injEq] at e;obtain ⟨rfl,-,rfl⟩:=e;have hc:∀ j,j < 2→w.cell? ⟨g,off+i * 2+j,none⟩=(ex l[i])[j]?:=fun j hj=>by
   rw [Nat.add_assoc,h4 (i * 2+j) (by omega),rowV_at l i j l[i] (List.getElem?_eq_getElem hi) hj]
  exact ⟨g,off,rfl,hc 0 (by omega),hc 1 (by omega),h1,h2,h3⟩
theorem nth_in (vs:List V2) (i:Nat) (h:i < vs.length):nth vs (i:Int)=vs[i]:=by
 unfold nth;rw [if_neg (by omega),List.getD_eq_getElem?_getD,Int.toNat_natCast,List.getElem?_eq_getElem h];rfl
theorem nth_out (vs:List V2) (i:Int) (h:i < 0∨(vs.length:Int)≤i):nth vs i=(0,0):=by
 unfold nth;rw [if_pos h]
theorem bY (vs:List V2) (v:Value) (at_:Int) (w:World) (hl:vs.length≤1000) (hr:bT w v 2 vs.length (cB vs)) :
  Calls Tryz.prog 160 #[v,.int .i64 at_] w fun e w'=>e=.returned (iI (nth vs at_))∧Below w.heap.size w w':=by
 obtain ⟨ao,cap,rfl⟩:=aq hr
 by_cases h:at_ < 0∨(vs.length:Int)≤at_
 ·rw [nth_out vs at_ h]
  by_cases h1:at_ < 0
  ·clear h hr
   go_enter Tryz.func160,Tryz.ntmps160
   go_wp2_with (go_at_call 125;refine (cz _).mono ?_;rintro e w' ⟨rfl,rfl⟩)
   refine bodyPost_ret (v:=.agg #[.int .i64 0,.int .i64 0]) (by simp [results,Tryz.results160,go_sem]) rfl ⟨rfl,?_⟩
   repeat (first | exact Below.refl _ _ | assumption | refine Below.drew ?_ | refine Below.alloc ?_ (by simp <;> omega) _ | refine Below.setCell ?_ (by simp <;> omega) _)
  ·have h2:(vs.length:Int)≤at_:=by omega
   have h3:0≤at_:=by omega
   clear h hr h1
   go_enter Tryz.func160,Tryz.ntmps160
   go_wp2_with (go_at_call 125;refine (cz _).mono ?_;rintro e w' ⟨rfl,rfl⟩)
   refine bodyPost_ret (v:=.agg #[.int .i64 0,.int .i64 0]) (by simp [results,Tryz.results160,go_sem]) rfl ⟨rfl,?_⟩
   repeat (first | exact Below.refl _ _ | assumption | refine Below.drew ?_ | refine Below.alloc ?_ (by simp <;> omega) _ | refine Below.setCell ?_ (by simp <;> omega) _)
 ·obtain ⟨i,rfl⟩:∃ i:Nat,at_=(i:Int):=⟨at_.toNat,by omega⟩
  have hi:i < vs.length:=by omega
  obtain ⟨g,off,rfl,c1,c2,l1,l2,l3⟩:=fJ hr i hi;rw [nth_in vs i hi];unfold iI;generalize vs[i]=p at *;obtain ⟨p1,p2⟩:=p
  simp only at c1 c2 ⊢
  unfold maxLen at l2;clear hr h
  go_enter Tryz.func160,Tryz.ntmps160
  go_wp2_with fail;refine bodyPost_ret (v:=.agg #[.int .i64 p1,.int .i64 p2]) (by simp [results,Tryz.results160,go_sem]) rfl ⟨rfl,?_⟩
  repeat (first | exact Below.refl _ _ | assumption | refine Below.drew ?_ | refine Below.alloc ?_ (by simp <;> omega) _ | refine Below.setCell ?_ (by simp <;> omega) _)
def opV (op:Int) (x y:V2):V2:=if op=3 then nW x.1 x.2 else if op=4 then nT x.1 x.2 else if op=5 then tru (x.1 == 0 && x.2 == 0) else doV op x.1 x.2 y.1 y.2
theorem iY {p:V2} (h:okV p):-1000000000≤p.2∧p.2≤1000000000:=by
 have:=of_decide_eq_true h
 omega
theorem pP (n:Int):okV (py n):=by
 unfold okV py numK numN vok;simp only [decide_eq_true_eq]
 by_cases h:-1000000000≤n∧n≤1000000000
 ·simp only [if_pos h];exact .inr (.inl ⟨trivial,h⟩)
 ·simp only [if_neg h];exact .inl ⟨trivial,trivial⟩
theorem pK (b:Bool):okV (tru b):=by cases b <;> exact rfl
theorem ok_zero:okV (0,0):=rfl
theorem ok_and (k1 n1 k2 n2:Int):okV (mb k1 n1 k2 n2,m7 k1 n1 k2 n2):=by
 unfold okV mb m7;cases (isF k1 n1 || isF k2 n2) <;> cases (isT k1 n1 && isT k2 n2) <;> exact rfl
theorem ok_or (k1 n1 k2 n2:Int):okV (orK k1 n1 k2 n2,orN k1 n1 k2 n2):=by
 unfold okV orK orN;cases (isT k1 n1 || isT k2 n2) <;> cases (isF k1 n1 && isF k2 n2) <;> exact rfl
theorem ok_do (op:Int) (x y:V2):okV (doV op x.1 x.2 y.1 y.2):=by
 unfold doV
 repeat' split
 all_goals first | exact ok_and _ _ _ _ | exact ok_or _ _ _ _ | exact pP _ | exact pK _ | exact ok_zero
theorem ok_op (op:Int) (x y:V2):okV (opV op x y):=by
 unfold opV nW nT
 repeat' split
 all_goals first | exact pP _ | exact pK _ | exact ok_zero | exact ok_do _ _ _
theorem ip {vs:List V2} (h:∀ p∈vs,okV p) (i:Int):okV (nth vs i):=by
 unfold nth
 split
 ·exact ok_zero
 ·rw [List.getD_eq_getElem?_getD];cases hh:vs[i.toNat]? with
  | none=>exact ok_zero
  | some p=>exact h p (List.mem_of_getElem? hh)
theorem okN_val {n:Nd} (h:okN n=0):okV (n.k,n.v):=by
 unfold okN at h
 by_cases hh:lG n
 ·simp [hh] at h
 ·rw [if_neg hh] at h
  by_cases h3:n.n < 0∨4≤n.n
  ·simp [h3] at h
  ·rw [if_neg h3] at h
   by_cases hv:qI n.k n.v=true
   ·exact hv
   ·rw [if_neg hv] at h;exact absurd h (by decide)
theorem ok_evN {ev:List V2} {n:Nd} {vs:List V2} (hev:∀ p∈ev,okV p) (hn:okN n=0):okV (evN opV ev n vs):=by
 unfold evN
 repeat' split
 all_goals first | exact okN_val hn | exact ip hev _ | exact ok_op _ _ _
end Go.Proofs.YtcgjflamgnjhcaaGreatDoor
namespace Go.Proofs.YtcgjflamgnjhcaaGreatDoor
open Go.ChangeShapes Go.WideShapes Go.ChangeAt Go.RowKit Go.Joins Go.Deep
theorem jZ {H:Type} {enc:TypeId×Value→H} {W:World} {sp:Nat→Bool} {hd:Bool} {fuel:Nat} {c d:Value} {x:DataW H×List MemPlace}
  (h:DataW.trod enc Tryz.prog W 0 sp hd fuel 41 [c,d]=some x):∃ m n:Int,c=.int .i64 m∧d=.int .i64 n:=by
 obtain ⟨y0,y1,n,-,-,h0,h1⟩:=trod_struct2 Tryz.underlying41 h;rw [cellsInt] at h0 h1;obtain ⟨a,ea⟩:=mu h0;obtain ⟨b,eb⟩:=mu h1;exact ⟨a,b,ea,eb⟩
end Go.Proofs.YtcgjflamgnjhcaaGreatDoor

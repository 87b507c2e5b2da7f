/- Several texts in one, each with its own head. What is proved: what the parts say. Conditions: theirs. -/
import Derived.WalkKit
import Derived.Below
import Derived.BigQuiet
import Derived.Deep.QuietTactic
set_option linter.unusedVariables false
set_option linter.unusedSimpArgs false
set_option maxRecDepth 100000
set_option maxHeartbeats 8000000
namespace Go.Proofs.YteaanpdckkmjoaaGreatDoor
structure Nd where
 op : Int
 x : Int
 y : Int
 n : Int
 k : Int
 v : Int
deriving DecidableEq
abbrev V2:=Int × Int
def ar (op : Int) : Int:=if op = 1 ∨ op = 2 then 0 else if 3 ≤ op ∧ op ≤ 5 then 1 else if 6 ≤ op ∧ op ≤ 12 then 2 else -1
theorem ar_le (op : Int) : ar op ≤ 2:=by unfold ar;(repeat' split);all_goals omega
def vokB (k n : Int) : Bool:=decide ((k = 0 ∧ n = 0) ∨ (k = 1 ∧ -1000000000 ≤ n ∧ n ≤ 1000000000) ∨ (k = 2 ∧ (n = 0 ∨ n = 1)))
def badN (n : Nd) : Prop:=ar n.op < 0 ∨ (n.op ≠ 1 ∧ ¬ (n.k = 0 ∧ n.v = 0)) ∨ (n.op ≠ 2 ∧ n.n ≠ 0) ∨ (ar n.op < 2 ∧ n.y ≠ 0) ∨ (ar n.op < 1 ∧ n.x ≠ 0)
instance (n : Nd) : Decidable (badN n):=by unfold badN;infer_instance
def okN (n : Nd) : Int:=if badN n then 3 else if n.n < 0 ∨ 4 ≤ n.n then 1 else if vokB n.k n.v then 0 else 3
def stepB (bs : List Nat) (b : Nat) (p : Int) : Option Nat:=if b = 0 ∨ p ≠ (b : Int) - 1 then none else some (bs.getD (b - 1) 0)
def begN (n : Nd) (bs : List Nat) : Option Nat :=
 if ar n.op = 1 then stepB bs bs.length n.x else if ar n.op = 2 then (stepB bs bs.length n.y).bind (fun b => stepB bs b n.x) else some bs.length
def chkF : List Nd → List Nat → Int × List Nat
 | [],bs => (0,bs)
 | n :: l,bs => if okN n ≠ 0 then (okN n,bs) else match begN n bs with
  | none => (3,bs)
  | some b => chkF l (bs ++ [b])
def chkE (l : List Nd) : Int :=
 if 40 < l.length then 2 else if (chkF l []).1 ≠ 0 then (chkF l []).1 else if l.length = 0 ∨ (chkF l []).2.getD (l.length - 1) 0 ≠ 0 then 3 else 0
def Good (l : List Nd) (bs : List Nat) : Prop :=
 bs.length = l.length ∧ ∀ i n,l[i]? = some n → okN n = 0 ∧ ∃ b,bs[i]? = some b ∧ begN n (bs.take i) = some b
theorem good_nil : Good [] []:=⟨rfl,by simp⟩
theorem good_snoc {l : List Nd} {bs : List Nat} {n : Nd} {b : Nat} (h : Good l bs) (h1 : okN n = 0) (h2 : begN n bs = some b) : Good (l ++ [n]) (bs ++ [b]):=by
 refine ⟨by simp [h.1],fun i m hi => ?_⟩
 by_cases hl : i < l.length
 ·rw [List.getElem?_append_left hl] at hi
  obtain ⟨a1,c,a2,a3⟩:=h.2 i m hi
  exact ⟨a1,c,by rw [List.getElem?_append_left (by rw [h.1];exact hl),a2],by rw [List.take_append_of_le_length (by rw [h.1];omega),a3]⟩
 ·rw [List.getElem?_append_right (by omega)] at hi
  have e : i = l.length:=by
   have:=(List.getElem?_eq_some_iff.1 hi).1
   simp at this;omega
  subst e
  simp at hi
  subst hi
  exact ⟨h1,b,by rw [List.getElem?_append_right (by rw [h.1];exact Nat.le_refl _),h.1];simp,by rw [← h.1];simpa using h2⟩
theorem chkF_good : ∀ (l pre : List Nd) (bs bs' : List Nat),Good pre bs → chkF l bs = (0,bs') → Good (pre ++ l) bs'
 | [],pre,bs,bs',h,e => by simp [chkF] at e;subst e;simpa using h
 | n :: l,pre,bs,bs',h,e => by
  unfold chkF at e
  by_cases h0 : okN n = 0
  ·rw [if_neg (by simpa using h0)] at e
   cases hb : begN n bs with
   | none => rw [hb] at e;simp at e
   | some b =>
    rw [hb] at e
    have:=chkF_good l (pre ++ [n]) (bs ++ [b]) bs' (good_snoc h h0 hb) e
    simpa using this
  ·rw [if_pos h0] at e
   simp at e
   exact absurd e.1 h0
theorem good_of_chk {l : List Nd} (h : chkE l = 0) : ∃ bs,Good l bs ∧ l.length ≤ 40 ∧ 0 < l.length ∧ bs[l.length - 1]? = some 0:=by
 unfold chkE at h
 by_cases h1 : 40 < l.length
 ·simp [h1] at h
 rw [if_neg h1] at h
 by_cases h2 : (chkF l []).1 = 0
 ·rw [if_neg (by simpa using h2)] at h
  by_cases h3 : l.length = 0 ∨ (chkF l []).2.getD (l.length - 1) 0 ≠ 0
  ·rw [if_pos h3] at h;exact absurd h (by decide)
  ·have g:=chkF_good l [] [] (chkF l []).2 good_nil (by rw [← h2])
   simp only [List.nil_append] at g
   refine ⟨_,g,by omega,by omega,?_⟩
   have h4 : (chkF l []).2.getD (l.length - 1) 0 = 0:=by
    by_cases hh : (chkF l []).2.getD (l.length - 1) 0 = 0
    ·exact hh
    ·exact absurd (Or.inr hh) h3
   have hl : l.length - 1 < (chkF l []).2.length:=by rw [g.1];omega
   rw [List.getD_eq_getElem?_getD,List.getElem?_eq_getElem hl] at h4
   rw [List.getElem?_eq_getElem hl]
   simpa using h4
 ·rw [if_pos h2] at h
  exact absurd h h2
theorem stepB_some {bs : List Nat} {b c : Nat} {p : Int} (h : stepB bs b p = some c) : 0 < b ∧ p = (b : Int) - 1 ∧ c = bs.getD (b - 1) 0:=by
 unfold stepB at h
 by_cases hc : b = 0 ∨ p ≠ (b : Int) - 1
 ·simp [hc] at h
 ·rw [if_neg hc] at h
  simp only [Option.some.injEq] at h
  exact ⟨by omega,by omega,h.symm⟩
theorem getD_take (bs : List Nat) (i j : Nat) (h : j < i) : (bs.take i).getD j 0 = bs.getD j 0:=by
 rw [List.getD_eq_getElem?_getD,List.getD_eq_getElem?_getD,List.getElem?_take_of_lt h]
theorem good_at {l : List Nd} {bs : List Nat} (h : Good l bs) {i : Nat} {n : Nd} (hi : l[i]? = some n) :
  okN n = 0 ∧ 0 ≤ ar n.op ∧
  (ar n.op = 0 → bs.getD i 0 = i) ∧
  (ar n.op = 1 → 0 < i ∧ n.x = (i : Int) - 1 ∧ bs.getD i 0 = bs.getD (i - 1) 0) ∧
  (ar n.op = 2 → 0 < i ∧ n.y = (i : Int) - 1 ∧ 0 < bs.getD (i - 1) 0 ∧ n.x = (bs.getD (i - 1) 0 : Int) - 1 ∧ bs.getD i 0 = (bs.take i).getD (bs.getD (i - 1) 0 - 1) 0):=by
 have hl:=(List.getElem?_eq_some_iff.1 hi).1
 obtain ⟨h0,b,h1,h2⟩:=h.2 i n hi
 have hb : bs.getD i 0 = b:=by rw [List.getD_eq_getElem?_getD,h1];rfl
 have hlen : (bs.take i).length = i:=by rw [List.length_take,h.1];omega
 have ha : 0 ≤ ar n.op:=by
  unfold okN at h0
  by_cases hh : badN n
  ·simp [hh] at h0
  ·unfold badN at hh
   omega
 unfold begN at h2
 refine ⟨h0,ha,fun a => ?_,fun a => ?_,fun a => ?_⟩
 ·rw [if_neg (by omega),if_neg (by omega),hlen] at h2
  simp at h2
  rw [hb];exact h2.symm
 ·rw [if_pos a,hlen] at h2
  obtain ⟨c1,c2,c3⟩:=stepB_some h2
  exact ⟨c1,c2,by rw [hb,c3,getD_take _ _ _ (by omega)]⟩
 ·rw [if_neg (by omega),if_pos a,hlen] at h2
  cases hs : stepB (bs.take i) i n.y with
  | none => rw [hs] at h2;simp at h2
  | some c =>
   rw [hs] at h2
   simp at h2
   obtain ⟨c1,c2,c3⟩:=stepB_some hs
   obtain ⟨d1,d2,d3⟩:=stepB_some h2
   rw [getD_take _ _ _ (by omega)] at c3
   subst c3
   exact ⟨c1,c2,d1,d2,by rw [hb,d3]⟩
theorem good_le {l : List Nd} {bs : List Nat} (h : Good l bs) : ∀ (i : Nat),i < l.length → bs.getD i 0 ≤ i:=by
 intro i
 induction i using Nat.strongRecOn with
 | ind i ih =>
  intro hi
  obtain ⟨-,a0,a1,a2,a3⟩:=good_at h (List.getElem?_eq_getElem hi)
  have:=ar_le l[i].op
  rcases (by omega : ar l[i].op = 0 ∨ ar l[i].op = 1 ∨ ar l[i].op = 2) with e | e | e
  ·rw [a1 e];exact Nat.le_refl _
  ·obtain ⟨b1,-,b2⟩:=a2 e
   rw [b2]
   have:=ih (i - 1) (by omega) (by omega)
   omega
  ·obtain ⟨b1,-,b2,-,b4⟩:=a3 e
   have c:=ih (i - 1) (by omega) (by omega)
   rw [b4,getD_take _ _ _ (by omega)]
   have:=ih (bs.getD (i - 1) 0 - 1) (by omega) (by omega)
   omega
theorem good_part {l : List Nd} {bs : List Nat} (h : Good l bs) {i : Nat} {n : Nd} (hi : l[i]? = some n) :
  (1 ≤ ar n.op → 0 ≤ n.x ∧ n.x < i ∧ bs.getD n.x.toNat 0 = bs.getD i 0) ∧ (ar n.op = 2 → n.y = (i : Int) - 1 ∧ 0 < i ∧ (bs.getD (i - 1) 0 : Int) = n.x + 1):=by
 have hl:=(List.getElem?_eq_some_iff.1 hi).1
 obtain ⟨-,a0,a1,a2,a3⟩:=good_at h hi
 have hle:=good_le h
 have:=ar_le n.op
 refine ⟨fun a => ?_,fun a => ?_⟩
 ·rcases (by omega : ar n.op = 1 ∨ ar n.op = 2) with e | e
  ·obtain ⟨b1,b2,b3⟩:=a2 e
   refine ⟨by omega,by omega,?_⟩
   rw [b3,b2]
   congr 1
   omega
  ·obtain ⟨b1,b2,b3,b4,b5⟩:=a3 e
   have c:=hle (i - 1) (by omega)
   refine ⟨by omega,by omega,?_⟩
   rw [b5,getD_take _ _ _ (by omega),b4]
   congr 1
   omega
 ·obtain ⟨b1,b2,b3,b4,b5⟩:=a3 a
  exact ⟨b2,b1,by omega⟩
def mv (by_ : Int) (n : Nd) : Nd:=if ar n.op = 1 then { n with x:=n.x + by_ } else if ar n.op = 2 then { n with x:=n.x + by_,y:=n.y + by_ } else n
theorem mv_op (c : Int) (n : Nd) : (mv c n).op = n.op:=by unfold mv;(repeat' split);all_goals rfl
theorem mv_zero (n : Nd) : mv 0 n = n:=by unfold mv;(repeat' split);all_goals simp
theorem map_mv_zero (l : List Nd) : l.map (mv 0) = l:=by
 induction l with
 | nil => rfl
 | cons a l ih => simp [mv_zero,ih]
theorem mv_ok (c : Int) (n : Nd) : okN (mv c n) = okN n:=by
 unfold mv
 by_cases h1 : ar n.op = 1
 ·simp [h1,okN,badN]
 ·by_cases h2 : ar n.op = 2
  ·simp [h2,okN,badN]
  ·simp [h1,h2]
theorem stepB_mv (B bs : List Nat) (b : Nat) (p : Int) (hb : b ≤ bs.length) (h : ∃ c,stepB bs b p = some c) :
  stepB (B ++ bs.map (· + B.length)) (b + B.length) (p + B.length) = (stepB bs b p).map (· + B.length):=by
 obtain ⟨c,h⟩:=h
 obtain ⟨c1,c2,c3⟩:=stepB_some h
 rw [h]
 unfold stepB
 rw [if_neg (by omega)]
 simp only [Option.map_some,Option.some.injEq]
 rw [c3,List.getD_eq_getElem?_getD,List.getD_eq_getElem?_getD,List.getElem?_append_right (by omega),show b + B.length - 1 - B.length = b - 1 from by omega,List.getElem?_map,List.getElem?_eq_getElem (by omega)]
 rfl
theorem begN_mv (B bs : List Nat) (n : Nd) (c : Nat) (hle : ∀ j,j < bs.length → bs.getD j 0 ≤ j) (h : begN n bs = some c) : begN (mv B.length n) (B ++ bs.map (· + B.length)) = some (c + B.length):=by
 have hop:=mv_op B.length n
 have hlen : (B ++ bs.map (· + B.length)).length = bs.length + B.length:=by simp;omega
 unfold begN at h ⊢
 rw [hop,hlen]
 by_cases h1 : ar n.op = 1
 ·rw [if_pos h1] at h ⊢
  have e : (mv B.length n).x = n.x + B.length:=by unfold mv;rw [if_pos h1]
  rw [e,stepB_mv B bs _ _ (Nat.le_refl _) ⟨c,h⟩,h]
  rfl
 ·rw [if_neg h1] at h ⊢
  by_cases h2 : ar n.op = 2
  ·rw [if_pos h2] at h ⊢
   have e : (mv B.length n).x = n.x + B.length:=by unfold mv;rw [if_neg h1,if_pos h2]
   have e' : (mv B.length n).y = n.y + B.length:=by unfold mv;rw [if_neg h1,if_pos h2]
   cases hs : stepB bs bs.length n.y with
   | none => rw [hs] at h;simp at h
   | some d =>
    rw [hs] at h
    simp at h
    rw [e,e',stepB_mv B bs _ _ (Nat.le_refl _) ⟨d,hs⟩,hs]
    simp only [Option.map_some,Option.bind_some]
    obtain ⟨c1,c2,c3⟩:=stepB_some hs
    have hd : d ≤ bs.length:=by
     have:=hle (bs.length - 1) (by omega)
     omega
    rw [stepB_mv B bs d _ hd ⟨c,h⟩,h]
    rfl
  ·rw [if_neg h2] at h ⊢
   simp at h
   simp [h]
theorem good_join {l m : List Nd} {bl bm : List Nat} (h1 : Good l bl) (h2 : Good m bm) : Good (l ++ m.map (mv l.length)) (bl ++ bm.map (· + l.length)):=by
 refine ⟨by simp [h1.1,h2.1],fun i n hi => ?_⟩
 by_cases hl : i < l.length
 ·rw [List.getElem?_append_left hl] at hi
  obtain ⟨a1,c,a2,a3⟩:=h1.2 i n hi
  exact ⟨a1,c,by rw [List.getElem?_append_left (by rw [h1.1];exact hl),a2],by rw [List.take_append_of_le_length (by rw [h1.1];omega),a3]⟩
 ·rw [List.getElem?_append_right (by omega),List.getElem?_map] at hi
  cases hm : m[i - l.length]? with
  | none => rw [hm] at hi;simp at hi
  | some n' =>
   rw [hm] at hi
   simp at hi
   subst hi
   obtain ⟨a1,c,a2,a3⟩:=h2.2 _ n' hm
   have hlm:=(List.getElem?_eq_some_iff.1 hm).1
   refine ⟨by rw [mv_ok,a1],c + l.length,by rw [List.getElem?_append_right (by rw [h1.1];omega),h1.1,List.getElem?_map,a2];rfl,?_⟩
   rw [List.take_append,List.take_of_length_le (by rw [h1.1];omega),h1.1,← List.map_take]
   have:=begN_mv bl (bm.take (i - l.length)) n' c (fun j hj => by
    have hj' : j < i - l.length:=by
     have:=List.length_take_le (i - l.length) bm
     omega
    rw [getD_take _ _ _ hj']
    exact good_le h2 j (by omega)) a3
   rw [h1.1] at this
   exact this
def nth (vs : List V2) (at_ : Int) : V2:=if at_ < 0 ∨ (vs.length : Int) ≤ at_ then (0,0) else vs.getD at_.toNat (0,0)
def evN (O : Int → V2 → V2 → V2) (ev : List V2) (n : Nd) (vs : List V2) : V2 :=
 if n.op = 1 then (n.k,n.v) else if n.op = 2 then nth ev n.n else if ar n.op = 1 then O n.op (nth vs n.x) (0,0) else O n.op (nth vs n.x) (nth vs n.y)
def evF (O : Int → V2 → V2 → V2) (ev : List V2) : List Nd → List V2 → List V2
 | [],vs => vs
 | n :: l,vs => evF O ev l (vs ++ [evN O ev n vs])
def evL (O : Int → V2 → V2 → V2) (ev : List V2) (l : List Nd) : V2:=nth (evF O ev l []) ((l.length : Int) - 1)
theorem evF_app (O : Int → V2 → V2 → V2) (ev : List V2) : ∀ (l m : List Nd) (vs : List V2),evF O ev (l ++ m) vs = evF O ev m (evF O ev l vs)
 | [],m,vs => rfl
 | n :: l,m,vs => by simp only [List.cons_append,evF];exact evF_app O ev l m _
theorem evF_len (O : Int → V2 → V2 → V2) (ev : List V2) : ∀ (l : List Nd) (vs : List V2),(evF O ev l vs).length = vs.length + l.length
 | [],vs => rfl
 | n :: l,vs => by simp only [evF];rw [evF_len O ev l];simp;omega
def joinL (op : Int) (l m : List Nd) : List Nd:=l ++ m.map (mv l.length) ++ [⟨op,(l.length : Int) - 1,(l.length : Int) + m.length - 1,0,0,0⟩]
def join1 (op : Int) (l : List Nd) : List Nd:=l ++ [⟨op,(l.length : Int) - 1,0,0,0,0⟩]
theorem ar_12 {op : Int} (h : 1 ≤ ar op) : op ≠ 1 ∧ op ≠ 2:=by
 constructor <;> (intro e;rw [e] at h;exact absurd h (by decide))
theorem nth_last (vs : List V2) (v : V2) : nth (vs ++ [v]) ((vs.length + 1 : Nat) - 1 : Int) = v:=by
 unfold nth
 rw [if_neg (by simp;omega),List.getD_eq_getElem?_getD,show ((vs.length + 1 : Nat) - 1 : Int).toNat = vs.length from by omega]
 simp
theorem ev_join1 (O : Int → V2 → V2 → V2) (ev : List V2) (op : Int) (l : List Nd) (ho : ar op = 1) :
  evL O ev (join1 op l) = O op (evL O ev l) (0,0):=by
 obtain ⟨n1,n2⟩:=ar_12 (by omega : 1 ≤ ar op)
 unfold evL join1
 rw [evF_app]
 simp only [evF]
 have hlen : (l ++ [(⟨op,(l.length : Int) - 1,0,0,0,0⟩ : Nd)]).length = (evF O ev l []).length + 1:=by simp [evF_len]
 rw [hlen,nth_last]
 unfold evN
 rw [if_neg n1,if_neg n2,if_pos ho]
theorem okN_new (op x y : Int) (h : ar op = 2) : okN ⟨op,x,y,0,0,0⟩ = 0:=by
 have h1:=ar_12 (by omega : 1 ≤ ar op)
 have hb : ¬ badN ⟨op,x,y,0,0,0⟩:=by unfold badN;simp [h1.1,h1.2,h]
 unfold okN
 rw [if_neg hb]
 rfl
theorem okN_new1 (op x : Int) (h : ar op = 1) : okN ⟨op,x,0,0,0,0⟩ = 0:=by
 have h1:=ar_12 (by omega : 1 ≤ ar op)
 have hb : ¬ badN ⟨op,x,0,0,0,0⟩:=by unfold badN;simp [h1.1,h1.2,h]
 unfold okN
 rw [if_neg hb]
 rfl
theorem getD_of {bs : List Nat} {i b : Nat} (h : bs[i]? = some b) : bs.getD i 0 = b:=by rw [List.getD_eq_getElem?_getD,h];rfl
theorem good_joinL {op : Int} {l m : List Nd} {bl bm : List Nat} (hl : Good l bl) (hm : Good m bm) (h0 : 0 < l.length) (h1 : 0 < m.length) (b0 : bl[l.length - 1]? = some 0) (b1 : bm[m.length - 1]? = some 0) (ho : ar op = 2) :
  Good (joinL op l m) (bl ++ bm.map (· + l.length) ++ [0]):=by
 refine good_snoc (good_join hl hm) (okN_new _ _ _ ho) ?_
 unfold begN
 simp only
 rw [if_neg (by omega),if_pos ho]
 have hlen : (bl ++ bm.map (· + l.length)).length = l.length + m.length:=by simp [hl.1,hm.1]
 rw [hlen]
 have s1 : stepB (bl ++ bm.map (· + l.length)) (l.length + m.length) ((l.length : Int) + m.length - 1) = some l.length:=by
  unfold stepB
  rw [if_neg (by omega)]
  congr 1
  rw [List.getD_eq_getElem?_getD,List.getElem?_append_right (by rw [hl.1];omega),hl.1,List.getElem?_map,show l.length + m.length - 1 - l.length = m.length - 1 from by omega,b1]
  simp
 rw [s1]
 simp only [Option.bind_some]
 unfold stepB
 rw [if_neg (by omega)]
 congr 1
 rw [List.getD_eq_getElem?_getD,List.getElem?_append_left (by rw [hl.1];omega),b0]
 rfl
theorem good_join1 {op : Int} {l : List Nd} {bl : List Nat} (hl : Good l bl) (h0 : 0 < l.length) (b0 : bl[l.length - 1]? = some 0) (ho : ar op = 1) :
  Good (join1 op l) (bl ++ [0]):=by
 refine good_snoc hl (okN_new1 _ _ ho) ?_
 unfold begN
 simp only
 rw [if_pos ho,hl.1]
 unfold stepB
 rw [if_neg (by omega)]
 congr 1
 exact getD_of b0
def Stk (bs : List Nat) : List Nat → Nat → Prop
 | [],e => e = 0
 | r :: rs,e => e = r + 1 ∧ Stk bs rs (bs.getD r 0)
def fltF : Nat → List Nd → List Nat → Int × List Nat
 | _,[],st => (0,st)
 | i,n :: l,st => if okN n ≠ 0 then (okN n,st) else
  if ar n.op = 0 then fltF (i + 1) l (i :: st)
  else if ar n.op = 1 then match st with
   | r :: rs => if (r : Int) = n.x then fltF (i + 1) l (i :: rs) else (3,st)
   | _ => (3,st)
  else match st with
   | r :: q :: rs => if (q : Int) = n.x ∧ (r : Int) = n.y then fltF (i + 1) l (i :: rs) else (3,st)
   | _ => (3,st)
def fltE (l : List Nd) : Int:=if 40 < l.length then 2 else if (fltF 0 l []).1 ≠ 0 then (fltF 0 l []).1 else if (fltF 0 l []).2.length ≠ 1 then 3 else 0
theorem stk_ext (bs : List Nat) (b : Nat) : ∀ (st : List Nat) (e : Nat),e ≤ bs.length → (∀ j,j < bs.length → bs.getD j 0 ≤ j) → Stk bs st e → Stk (bs ++ [b]) st e
 | [],e,_,_,h => h
 | r :: rs,e,he,hle,h => by
  obtain ⟨h1,h2⟩:=h
  have hr : (bs ++ [b]).getD r 0 = bs.getD r 0:=by
   rw [List.getD_eq_getElem?_getD,List.getD_eq_getElem?_getD,List.getElem?_append_left (by omega)]
  have:=hle r (by omega)
  exact ⟨h1,by rw [hr];exact stk_ext bs b rs _ (by omega) hle h2⟩
theorem okN_ar {n : Nd} (h : okN n = 0) : ar n.op = 0 ∨ ar n.op = 1 ∨ ar n.op = 2:=by
 have:=ar_le n.op
 unfold okN at h
 by_cases hh : badN n
 ·simp [hh] at h
 ·unfold badN at hh
  omega
theorem getD_last (bs : List Nat) (b : Nat) : (bs ++ [b]).getD bs.length 0 = b:=by
 rw [List.getD_eq_getElem?_getD]
 simp
theorem flt_chk : ∀ (l pre : List Nd) (bs st : List Nat),Good pre bs → Stk bs st pre.length →
  (fltF pre.length l st).1 = (chkF l bs).1 ∧ ((chkF l bs).1 = 0 → Stk (chkF l bs).2 (fltF pre.length l st).2 (pre.length + l.length))
 | [],pre,bs,st,hg,hs => ⟨rfl,fun _ => hs⟩
 | n :: l,pre,bs,st,hg,hs => by
  have hle : ∀ j,j < bs.length → bs.getD j 0 ≤ j:=fun j hj => good_le hg j (by rw [← hg.1];exact hj)
  have hlen:=hg.1
  unfold fltF chkF
  by_cases h0 : okN n = 0
  ·simp only [h0,ne_eq,not_true_eq_false,if_false]
   have go : ∀ (b : Nat) (rs : List Nat),begN n bs = some b → Stk bs rs b → b ≤ pre.length →
     (fltF (pre.length + 1) l (pre.length :: rs)).1 = (chkF l (bs ++ [b])).1 ∧ ((chkF l (bs ++ [b])).1 = 0 → Stk (chkF l (bs ++ [b])).2 (fltF (pre.length + 1) l (pre.length :: rs)).2 (pre.length + (n :: l).length)):=by
    intro b rs hb hst hbl
    have:=flt_chk l (pre ++ [n]) (bs ++ [b]) (pre.length :: rs) (good_snoc hg h0 hb) (by
     refine ⟨by simp,?_⟩
     rw [← hlen,getD_last]
     exact stk_ext bs b rs b (by omega) hle hst)
    simp only [List.length_append,List.length_cons,List.length_nil] at this ⊢
    rw [show pre.length + (l.length + 1) = pre.length + 1 + l.length from by omega]
    exact this
   rcases okN_ar h0 with e | e | e
   ·have hb : begN n bs = some pre.length:=by unfold begN;rw [if_neg (by omega),if_neg (by omega),hlen]
    rw [if_pos e,hb]
    exact go _ st hb hs (Nat.le_refl _)
   ·rw [if_neg (by omega),if_pos e]
    have hb : begN n bs = stepB bs pre.length n.x:=by unfold begN;rw [if_pos e,hlen]
    cases st with
    | nil =>
     have hs' : pre.length = 0:=hs
     have : begN n bs = none:=by rw [hb];unfold stepB;rw [if_pos (Or.inl hs')]
     rw [this]
     simp
    | cons r rs =>
     obtain ⟨h1,h2⟩:=hs
     have hr:=hle r (by omega)
     by_cases hx : (r : Int) = n.x
     ·have : begN n bs = some (bs.getD r 0):=by rw [hb];unfold stepB;rw [if_neg (by omega),h1];rfl
      rw [this]
      simp only [hx,if_true]
      exact go _ rs this h2 (by omega)
     ·have : begN n bs = none:=by rw [hb];unfold stepB;rw [if_pos (by omega)]
      rw [this]
      simp only [hx,if_false]
      simp
   ·rw [if_neg (by omega),if_neg (by omega)]
    have hb : begN n bs = (stepB bs pre.length n.y).bind (fun b => stepB bs b n.x):=by unfold begN;rw [if_neg (by omega),if_pos e,hlen]
    cases st with
    | nil =>
     have hs' : pre.length = 0:=hs
     have : begN n bs = none:=by rw [hb];unfold stepB;rw [if_pos (Or.inl hs')];rfl
     rw [this]
     simp
    | cons r rs =>
     obtain ⟨h1,h2⟩:=hs
     have hr:=hle r (by omega)
     by_cases hy : (r : Int) = n.y
     ·have s1 : stepB bs pre.length n.y = some (bs.getD r 0):=by unfold stepB;rw [if_neg (by omega),h1];rfl
      rw [s1] at hb
      simp only [Option.bind_some] at hb
      cases rs with
      | nil =>
       have h2' : bs.getD r 0 = 0:=h2
       have : begN n bs = none:=by rw [hb];unfold stepB;rw [if_pos (Or.inl h2')]
       rw [this]
       simp
      | cons q rs =>
       obtain ⟨h3,h4⟩:=h2
       have hq:=hle q (by omega)
       by_cases hx : (q : Int) = n.x
       ·have : begN n bs = some (bs.getD q 0):=by rw [hb];unfold stepB;rw [if_neg (by omega),h3];rfl
        rw [this]
        simp only [hx,hy,and_self,if_true]
        exact go _ rs this h4 (by omega)
       ·have : begN n bs = none:=by rw [hb];unfold stepB;rw [if_pos (by omega)]
        rw [this]
        simp only [hx,false_and,if_false]
        simp
     ·have s1 : stepB bs pre.length n.y = none:=by unfold stepB;rw [if_pos (by omega)]
      rw [s1] at hb
      simp only [Option.bind_none] at hb
      rw [hb]
      cases rs with
      | nil => simp
      | cons q rs =>
       simp only [hy,and_false,if_false]
       simp
  ·simp only [h0,ne_eq,not_false_eq_true,if_true]
   exact ⟨trivial,fun h => h.elim⟩
theorem stk_len (bs : List Nat) (st : List Nat) (e : Nat) (h : Stk bs st e) : st.length = 1 ↔ (0 < e ∧ bs.getD (e - 1) 0 = 0):=by
 cases st with
 | nil => have : e = 0:=h;simp [this]
 | cons r rs =>
  obtain ⟨h1,h2⟩:=h
  subst h1
  cases rs with
  | nil => have : bs.getD r 0 = 0:=h2;simp;rw [← List.getD_eq_getElem?_getD];exact this
  | cons q rs => obtain ⟨h3,h4⟩:=h2;simp;rw [← List.getD_eq_getElem?_getD,h3];omega
theorem fault_is (l : List Nd) : fltE l = chkE l:=by
 obtain ⟨h1,h2⟩:=flt_chk l [] [] [] good_nil rfl
 simp only [List.length_nil,Nat.zero_add] at h1 h2
 unfold fltE chkE
 by_cases h : 40 < l.length
 ·rw [if_pos h,if_pos h]
 ·rw [if_neg h,if_neg h,h1]
  by_cases h3 : (chkF l []).1 = 0
  ·have hs:=stk_len _ _ _ (h2 h3)
   simp only [h3,ne_eq,not_true_eq_false,if_false]
   by_cases h4 : (fltF 0 l []).2.length = 1
   ·obtain ⟨h5,h6⟩:=hs.1 h4
    have : ¬ (l.length = 0 ∨ ¬ (chkF l []).2.getD (l.length - 1) 0 = 0):=by rw [h6];omega
    rw [if_neg this]
    simp [h4]
   ·have : l.length = 0 ∨ ¬ (chkF l []).2.getD (l.length - 1) 0 = 0:=by
     by_cases h5 : l.length = 0
     ·exact .inl h5
     ·exact .inr fun h6 => h4 (hs.2 ⟨by omega,h6⟩)
    rw [if_pos this]
    simp [h4]
  ·simp only [h3,ne_eq,not_false_eq_true,if_true]
end Go.Proofs.YteaanpdckkmjoaaGreatDoor
namespace Go.Proofs.YteaanpdckkmjoaaGreatDoor
def goes (op k : Int) : Bool:=if op = 4 ∨ op = 9 ∨ op = 10 then !(k == 1) else if op = 5 then true else !(k == 2)
def kindN (n : Nd) : Int:=if n.op = 1 then n.k else if n.op = 4 ∨ n.op = 5 ∨ n.op = 9 ∨ n.op = 10 ∨ n.op = 11 ∨ n.op = 12 then 2 else 1
def fitP (op : Int) (ks : List Int) (p : Int) : Bool:=if p < 0 ∨ (ks.length : Int) ≤ p then false else goes op (ks.getD p.toNat 0)
def fitN (n : Nd) (ks : List Int) : Bool:=if ar n.op = 1 then fitP n.op ks n.x else if ar n.op = 2 then (if fitP n.op ks n.y then fitP n.op ks n.x else false) else true
def tyF : List Nd → List Int → Option (List Int)
 | [],ks => some ks
 | n :: l,ks => if fitN n ks then tyF l (ks ++ [kindN n]) else none
def tyE (l : List Nd) : V2:=if l.length = 0 then (0,3) else match tyF l [] with
 | none => (0,3)
 | some ks => (ks.getD (l.length - 1) 0,0)
def tyAt (l : List Nd) : Nat → Nat → Int × Bool
 | 0,_ => (0,false)
 | f + 1,i => match l[i]? with
  | none => (0,false)
  | some n => if n.op = 1 then (n.k,true) else if n.op = 2 then (1,true) else
   let a:=tyAt l f n.x.toNat
   let b:=if ar n.op = 2 then tyAt l f n.y.toNat else a
   if a.2 = false ∨ b.2 = false then (0,false) else if n.op = 5 then (2,true) else
   let want : Int:=if n.op = 4 ∨ n.op = 9 ∨ n.op = 10 then 2 else 1
   if (a.1 ≠ 0 ∧ a.1 ≠ want) ∨ (b.1 ≠ 0 ∧ b.1 ≠ want) then (0,false) else (if n.op = 11 ∨ n.op = 12 then 2 else want,true)
def fitAt (l : List Nd) (j : Nat) : Prop:=∀ n,l[j]? = some n → fitN n ((l.take j).map kindN) = true
theorem tyF_yes : ∀ (l pre : List Nd),(∀ j,pre.length ≤ j → fitAt (pre ++ l) j) → tyF l (pre.map kindN) = some ((pre ++ l).map kindN)
 | [],pre,_ => by simp [tyF]
 | n :: l,pre,h => by
  have h1:=h pre.length (Nat.le_refl _) n (by simp)
  simp only [List.take_left'] at h1
  unfold tyF
  rw [if_pos h1]
  have:=tyF_yes l (pre ++ [n]) (fun j hj => by
   have:=h j (by simp at hj;omega)
   simpa using this)
  simpa using this
theorem tyF_no : ∀ (l pre : List Nd),(∃ j,pre.length ≤ j ∧ ¬ fitAt (pre ++ l) j) → tyF l (pre.map kindN) = none
 | [],pre,⟨j,h1,h2⟩ => by
  exact absurd (fun n hn => by rw [List.getElem?_eq_none (by simpa using h1)] at hn;cases hn) h2
 | n :: l,pre,⟨j,h1,h2⟩ => by
  unfold tyF
  by_cases hf : fitN n (pre.map kindN) = true
  ·rw [if_pos hf]
   have:=tyF_no l (pre ++ [n]) ⟨j,by
    by_cases hj : j = pre.length
    ·subst hj
     exact absurd (fun m hm => by simp at hm;subst hm;simpa using hf) h2
    ·simp;omega,by simpa using h2⟩
   simpa using this
  ·rw [if_neg hf]
theorem okN_kind {n : Nd} (h : okN n = 0) : n.op = 1 → n.k = 0 ∨ n.k = 1 ∨ n.k = 2:=by
 intro _
 unfold okN at h
 by_cases hh : badN n
 ·simp [hh] at h
 ·rw [if_neg hh] at h
  by_cases h3 : n.n < 0 ∨ 4 ≤ n.n
  ·simp [h3] at h
  ·rw [if_neg h3] at h
   by_cases hv : vokB n.k n.v = true
   ·unfold vokB at hv
    simp at hv
    omega
   ·rw [if_neg hv] at h;exact absurd h (by decide)
theorem kindN_in {n : Nd} (h : okN n = 0) : kindN n = 0 ∨ kindN n = 1 ∨ kindN n = 2:=by
 unfold kindN
 by_cases h1 : n.op = 1
 ·rw [if_pos h1];exact okN_kind h h1
 ·rw [if_neg h1]
  split <;> omega
theorem goes_is (op a : Int) (h : a = 0 ∨ a = 1 ∨ a = 2) (h5 : op ≠ 5) : goes op a = !decide (a ≠ 0 ∧ a ≠ (if op = 4 ∨ op = 9 ∨ op = 10 then 2 else 1)):=by
 unfold goes
 by_cases h4 : op = 4 ∨ op = 9 ∨ op = 10
 ·rw [if_pos h4,if_pos h4]
  rcases h with rfl | rfl | rfl <;> decide
 ·rw [if_neg h4,if_neg h4,if_neg h5]
  rcases h with rfl | rfl | rfl <;> decide
theorem kinds_at (l : List Nd) (i p : Nat) (m : Nd) (hp : p < i) (hm : l[p]? = some m) : ((l.take i).map kindN).getD p 0 = kindN m ∧ p < ((l.take i).map kindN).length:=by
 have:=(List.getElem?_eq_some_iff.1 hm).1
 refine ⟨?_,by simp;omega⟩
 rw [List.getD_eq_getElem?_getD,List.getElem?_map,List.getElem?_take_of_lt hp,hm]
 rfl
theorem fitP_at (l : List Nd) (i : Nat) (op p : Int) (m : Nd) (h0 : 0 ≤ p) (hp : p.toNat < i) (hm : l[p.toNat]? = some m) : fitP op ((l.take i).map kindN) p = goes op (kindN m):=by
 obtain ⟨h1,h2⟩:=kinds_at l i p.toNat m hp hm
 unfold fitP
 rw [if_neg (by omega),h1]
open Classical in
theorem tyAt_is {l : List Nd} {bs : List Nat} (h : Good l bs) : ∀ (i : Nat),i < l.length → ∀ (f : Nat) (n : Nd),i < f → l[i]? = some n → tyAt l f i = if (∀ j,bs.getD i 0 ≤ j → j ≤ i → fitAt l j) then (kindN n,true) else (0,false):=by
 intro i
 induction i using Nat.strongRecOn with
 | ind i ih =>
  intro hi f n hf hn
  obtain ⟨f,rfl⟩ : ∃ g,f = g + 1:=⟨f - 1,by omega⟩
  obtain ⟨p1,p2⟩:=good_part h hn
  obtain ⟨ok,a0,a1,a2,a3⟩:=good_at h hn
  have hle:=good_le h
  have:=ar_le n.op
  have hself : (∀ j,bs.getD i 0 ≤ j → j ≤ i → fitAt l j) → fitN n ((l.take i).map kindN) = true:=fun H => H i (hle i hi) (Nat.le_refl _) n hn
  unfold tyAt
  rw [hn]
  simp only
  rcases (by omega : ar n.op = 0 ∨ ar n.op = 1 ∨ ar n.op = 2) with e | e | e
  ·have hfit : ∀ j,bs.getD i 0 ≤ j → j ≤ i → fitAt l j:=by
    intro j h1 h2 m hm
    have hj : j = i:=by have:=a1 e;omega
    subst hj
    rw [hn] at hm
    cases hm
    unfold fitN
    rw [if_neg (by omega),if_neg (by omega)]
   rw [if_pos hfit]
   have : n.op = 1 ∨ n.op = 2:=by
    unfold ar at e
    by_cases hh : n.op = 1 ∨ n.op = 2
    ·exact hh
    ·rw [if_neg hh] at e
     repeat' split at e
     all_goals omega
   unfold kindN
   rcases this with q | q
   ·simp [q]
   ·simp [q]
  ·obtain ⟨n1,n2⟩:=ar_12 (by omega : 1 ≤ ar n.op)
   obtain ⟨x0,x1,x2⟩:=p1 (by omega)
   have xl : n.x.toNat < l.length:=by omega
   have hm:=List.getElem?_eq_getElem xl
   have IH:=ih n.x.toNat (by omega) xl f l[n.x.toNat] (by omega) hm
   have ne2 : ¬ (ar n.op = 2):=by omega
   obtain ⟨okm,-⟩:=good_at h hm
   have hk:=kindN_in okm
   have hfp:=fitP_at l i n.op n.x l[n.x.toNat] x0 (by omega) hm
   have hfn : fitN n ((l.take i).map kindN) = goes n.op (kindN l[n.x.toNat]):=by unfold fitN;rw [if_pos e,hfp]
   have hx1 : n.x.toNat + 1 = i:=by have:=a2 e;omega
   rw [if_neg n1,if_neg n2,if_neg ne2,IH]
   rw [x2]
   by_cases H : ∀ j,bs.getD i 0 ≤ j → j ≤ n.x.toNat → fitAt l j
   ·rw [if_pos H]
    simp only [or_self,Bool.true_eq_false,if_false]
    have hall : (∀ j,bs.getD i 0 ≤ j → j ≤ i → fitAt l j) ↔ goes n.op (kindN l[n.x.toNat]) = true:=by
     rw [← hfn]
     refine ⟨hself,fun hg j h1 h2 => ?_⟩
     by_cases hj : j = i
     ·subst hj;intro m hm';rw [hn] at hm';cases hm';exact hg
     ·exact H j h1 (by omega)
    by_cases h5 : n.op = 5
    ·have hg : goes n.op (kindN l[n.x.toNat]) = true:=by unfold goes;rw [h5];simp
     rw [if_pos h5,if_pos (hall.2 hg)]
     unfold kindN
     simp [h5]
    ·rw [if_neg h5]
     have hgi:=goes_is n.op _ hk h5
     by_cases hg : goes n.op (kindN l[n.x.toNat]) = true
     ·rw [if_pos (hall.2 hg)]
      rw [hgi] at hg
      simp only [Bool.not_eq_true',decide_eq_false_iff_not] at hg
      rw [if_neg hg]
      have : n.op = 3 ∨ n.op = 4:=by
       unfold ar at e
       repeat' split at e
       all_goals omega
      unfold kindN
      rcases this with q | q <;> simp [q]
     ·rw [if_neg (fun H' => hg (hall.1 H'))]
      rw [hgi] at hg
      simp only [Bool.not_eq_true',decide_eq_false_iff_not,Decidable.not_not] at hg
      rw [if_pos hg]
   ·rw [if_neg H]
    simp only [or_self,if_true]
    rw [if_neg]
    exact fun H' => H fun j h1 h2 => H' j h1 (by omega)
  ·obtain ⟨n1,n2⟩:=ar_12 (by omega : 1 ≤ ar n.op)
   obtain ⟨x0,x1,x2⟩:=p1 (by omega)
   obtain ⟨y0,y1,y2⟩:=p2 e
   have xl : n.x.toNat < l.length:=by omega
   have yl : n.y.toNat < l.length:=by omega
   have hm:=List.getElem?_eq_getElem xl
   have hm':=List.getElem?_eq_getElem yl
   have IH:=ih n.x.toNat (by omega) xl f l[n.x.toNat] (by omega) hm
   have IH':=ih n.y.toNat (by omega) yl f l[n.y.toNat] (by omega) hm'
   obtain ⟨okm,-⟩:=good_at h hm
   obtain ⟨okm',-⟩:=good_at h hm'
   have hk:=kindN_in okm
   have hk':=kindN_in okm'
   have hfp:=fitP_at l i n.op n.x l[n.x.toNat] x0 (by omega) hm
   have hfp':=fitP_at l i n.op n.y l[n.y.toNat] (by omega) (by omega) hm'
   have n5 : n.op ≠ 5:=by intro q;rw [q] at e;exact absurd e (by decide)
   have n4 : n.op ≠ 4:=by intro q;rw [q] at e;exact absurd e (by decide)
   have hyi : n.y.toNat = i - 1:=by omega
   have hbx : bs.getD n.y.toNat 0 = n.x.toNat + 1:=by rw [hyi];omega
   have hfn : fitN n ((l.take i).map kindN) = (goes n.op (kindN l[n.y.toNat]) && goes n.op (kindN l[n.x.toNat])):=by
    unfold fitN
    rw [if_neg (by omega),if_pos e,hfp,hfp']
    cases goes n.op (kindN l[n.y.toNat]) <;> rfl
   have hxi:=hle n.x.toNat xl
   rw [if_neg n1,if_neg n2,if_pos e,IH,IH',hbx,x2]
   by_cases H : ∀ j,bs.getD i 0 ≤ j → j ≤ n.x.toNat → fitAt l j
   ·by_cases H2 : ∀ j,n.x.toNat + 1 ≤ j → j ≤ n.y.toNat → fitAt l j
    ·rw [if_pos H,if_pos H2]
     simp only [or_self,Bool.true_eq_false,if_false]
     have hall : (∀ j,bs.getD i 0 ≤ j → j ≤ i → fitAt l j) ↔ (goes n.op (kindN l[n.y.toNat]) && goes n.op (kindN l[n.x.toNat])) = true:=by
      rw [← hfn]
      refine ⟨hself,fun hg j h1 h2 => ?_⟩
      by_cases hj : j = i
      ·subst hj;intro m hm';rw [hn] at hm';cases hm';exact hg
      ·by_cases hjx : j ≤ n.x.toNat
       ·exact H j h1 hjx
       ·exact H2 j (by omega) (by omega)
     rw [if_neg n5]
     have hgi:=goes_is n.op _ hk n5
     have hgi':=goes_is n.op _ hk' n5
     by_cases hg : (goes n.op (kindN l[n.y.toNat]) && goes n.op (kindN l[n.x.toNat])) = true
     ·rw [if_pos (hall.2 hg)]
      rw [hgi,hgi'] at hg
      simp only [Bool.and_eq_true,Bool.not_eq_true',decide_eq_false_iff_not] at hg
      rw [if_neg (fun q => q.elim hg.2 hg.1)]
      have : n.op = 6 ∨ n.op = 7 ∨ n.op = 8 ∨ n.op = 9 ∨ n.op = 10 ∨ n.op = 11 ∨ n.op = 12:=by
       unfold ar at e
       repeat' split at e
       all_goals omega
      unfold kindN
      rcases this with q | q | q | q | q | q | q <;> simp [q]
     ·rw [if_neg (fun H' => hg (hall.1 H'))]
      rw [hgi,hgi'] at hg
      rw [if_pos]
      by_cases hA : kindN l[n.x.toNat] ≠ 0 ∧ kindN l[n.x.toNat] ≠ (if n.op = 4 ∨ n.op = 9 ∨ n.op = 10 then 2 else 1)
      ·exact .inl hA
      ·right
       by_cases hB : kindN l[n.y.toNat] ≠ 0 ∧ kindN l[n.y.toNat] ≠ (if n.op = 4 ∨ n.op = 9 ∨ n.op = 10 then 2 else 1)
       ·exact hB
       ·exact absurd (by simp only [decide_eq_false hA,decide_eq_false hB];rfl) hg
    ·rw [if_neg H2]
     simp only [or_true,if_true]
     rw [if_neg]
     exact fun H' => H2 fun j h1 h2 => H' j (by omega) (by omega)
   ·rw [if_neg H]
    simp only [true_or,if_true]
    rw [if_neg]
    exact fun H' => H fun j h1 h2 => H' j h1 (by omega)
open Classical in
theorem type_is {l : List Nd} {bs : List Nat} (h : Good l bs) (h0 : 0 < l.length) (hb : bs.getD (l.length - 1) 0 = 0) :
  tyE l = ((tyAt l l.length (l.length - 1)).1,if (tyAt l l.length (l.length - 1)).2 then 0 else 3):=by
 have hl : l.length - 1 < l.length:=by omega
 rw [tyAt_is h (l.length - 1) hl l.length _ hl (List.getElem?_eq_getElem hl),hb]
 unfold tyE
 rw [if_neg (by omega)]
 by_cases H : ∀ j,0 ≤ j → j ≤ l.length - 1 → fitAt l j
 ·rw [if_pos H]
  have:=tyF_yes l [] (fun j _ => by
   simp only [List.nil_append]
   by_cases hj : j < l.length
   ·exact H j (Nat.zero_le _) (by omega)
   ·intro m hm
    rw [List.getElem?_eq_none (by omega)] at hm
    cases hm)
  simp only [List.map_nil,List.nil_append] at this
  rw [this]
  simp only [if_true]
  rw [List.getD_eq_getElem?_getD,List.getElem?_map,List.getElem?_eq_getElem hl]
  rfl
 ·rw [if_neg H]
  have hex : ∃ j,([] : List Nd).length ≤ j ∧ ¬ fitAt ([] ++ l) j:=by
   by_cases hh : ∃ j,([] : List Nd).length ≤ j ∧ ¬ fitAt ([] ++ l) j
   ·exact hh
   ·refine absurd (fun j _ _ => ?_) H
    by_cases hj : fitAt l j
    ·exact hj
    ·exact absurd ⟨j,Nat.zero_le _,by simpa using hj⟩ hh
  have:=tyF_no l [] hex
  simp only [List.map_nil] at this
  rw [this]
  simp
end Go.Proofs.YteaanpdckkmjoaaGreatDoor
namespace Go.Proofs.YteaanpdckkmjoaaGreatDoor
open Go.RowKit
structure Kin (W0 : World) where
 w : World
 h : Below W0.heap.size W0 w
theorem wp_region_kin {P : Program} {id : Nat} {Q : Exit → Act → World → Prop} {a : Act} {W0 w : World} {l : List Oper} (hb : Hid (Below W0.heap.size W0 w)) (hm : P.follows .mixedOrders = true) (hB : Region.lexB .any l.toArray = true)
  (h : wpQuiet P l.toArray (fun w' => ∃ p : Kin W0,w' = p.w) (fun a' => ∀ w',(∃ p : Kin W0,w' = p.w) → Q .normal a' w') l a) : (Code.region id l.toArray true).wp P Q a w :=
 wp_region_quiet (C:=fun w' => ∃ p : Kin W0,w' = p.w) hm hB ⟨⟨_,hb.out.drew⟩,rfl⟩ (by simpa using h)
theorem kin_of {P : Program} {f : FuncId} {args : Array Value} {W0 : World} {p : Kin W0} {v : Value}
  (h : Calls P f args p.w fun e w' => e = .returned v ∧ Below p.w.heap.size p.w w') : Calls P f args p.w fun e w'' => e = .returned v ∧ ∃ q : Kin W0,w'' = q.w :=
 h.mono fun _ w' ⟨he,hb⟩ => ⟨he,⟨w',p.h.trans (hb.mono p.h.size)⟩,rfl⟩
theorem kin_same {P : Program} {f : FuncId} {args : Array Value} {W0 : World} {p : Kin W0} {v : Value}
  (h : Calls P f args p.w fun e w' => e = .returned v ∧ w' = p.w) : Calls P f args p.w fun e w'' => e = .returned v ∧ ∃ q : Kin W0,w'' = q.w :=
 h.mono fun _ _ ⟨he,hb⟩ => ⟨he,p,hb⟩
theorem kin_rules (W0 : World) : (∀ (p : Kin W0) (b o : Nat),b < W0.heap.size → p.w.cell? ⟨b,o,none⟩ = W0.cell? ⟨b,o,none⟩) ∧ (∀ (p : Kin W0) (b o : Nat),b < W0.heap.size → p.w.frozen? ⟨b,o,none⟩ = W0.frozen? ⟨b,o,none⟩) :=
 ⟨fun p b o hb => p.h.cell (p:=⟨b,o,none⟩) hb,fun p b o hb => p.h.frozen (p:=⟨b,o,none⟩) hb⟩
theorem kin_some (W0 : World) : Nonempty (Kin W0):=⟨⟨W0,Below.refl _ _⟩⟩
end Go.Proofs.YteaanpdckkmjoaaGreatDoor

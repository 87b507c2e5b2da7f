/- Several texts in one, each with its own head. What is proved: what the parts say. Conditions: theirs. -/
import Derived.Test.YtaomljdbndajgaaGreatDoorVals4
import Derived.Test.YtaomljdbndajgaaGreatDoorKinJ
import Derived.OwnWalk
set_option linter.unusedVariables false
set_option linter.unusedSimpArgs false
set_option maxRecDepth 100000
set_option maxHeartbeats 8000000
namespace Go.Proofs.YtaomljdbndajgaaGreatDoor
structure Nd where
 op : Int
 x : Int
 y : Int
 n : Int
 k : Int
 v : Int
deriving DecidableEq
abbrev V2:=Int × Int
def ar (op : Int) : Int:=if op = 1 ∨ op = 2 then 0 else if 3 ≤ op ∧ op ≤ 5 then 1 else if 6 ≤ op ∧ op ≤ 12 then 2 else -1
theorem ar_le (op : Int) : ar op ≤ 2:=by unfold ar;(repeat' split);all_goals omega
def vokB (k n : Int) : Bool:=decide ((k = 0 ∧ n = 0) ∨ (k = 1 ∧ -1000000000 ≤ n ∧ n ≤ 1000000000) ∨ (k = 2 ∧ (n = 0 ∨ n = 1)))
def badN (n : Nd) : Prop:=ar n.op < 0 ∨ (n.op ≠ 1 ∧ ¬ (n.k = 0 ∧ n.v = 0)) ∨ (n.op ≠ 2 ∧ n.n ≠ 0) ∨ (ar n.op < 2 ∧ n.y ≠ 0) ∨ (ar n.op < 1 ∧ n.x ≠ 0)
instance (n : Nd) : Decidable (badN n):=by unfold badN;infer_instance
def okN (n : Nd) : Int:=if badN n then 3 else if n.n < 0 ∨ 4 ≤ n.n then 1 else if vokB n.k n.v then 0 else 3
def stepB (bs : List Nat) (b : Nat) (p : Int) : Option Nat:=if b = 0 ∨ p ≠ (b : Int) - 1 then none else some (bs.getD (b - 1) 0)
def begN (n : Nd) (bs : List Nat) : Option Nat :=
 if ar n.op = 1 then stepB bs bs.length n.x else if ar n.op = 2 then (stepB bs bs.length n.y).bind (fun b => stepB bs b n.x) else some bs.length
def chkF : List Nd → List Nat → Int × List Nat
 | [],bs => (0,bs)
 | n :: l,bs => if okN n ≠ 0 then (okN n,bs) else match begN n bs with
  | none => (3,bs)
  | some b => chkF l (bs ++ [b])
def chkE (l : List Nd) : Int :=
 if 40 < l.length then 2 else if (chkF l []).1 ≠ 0 then (chkF l []).1 else if l.length = 0 ∨ (chkF l []).2.getD (l.length - 1) 0 ≠ 0 then 3 else 0
def Good (l : List Nd) (bs : List Nat) : Prop :=
 bs.length = l.length ∧ ∀ i n,l[i]? = some n → okN n = 0 ∧ ∃ b,bs[i]? = some b ∧ begN n (bs.take i) = some b
theorem good_nil : Good [] []:=⟨rfl,by simp⟩
theorem good_snoc {l : List Nd} {bs : List Nat} {n : Nd} {b : Nat} (h : Good l bs) (h1 : okN n = 0) (h2 : begN n bs = some b) : Good (l ++ [n]) (bs ++ [b]):=by
 refine ⟨by simp [h.1],fun i m hi => ?_⟩
 by_cases hl : i < l.length
 ·rw [List.getElem?_append_left hl] at hi
  obtain ⟨a1,c,a2,a3⟩:=h.2 i m hi
  exact ⟨a1,c,by rw [List.getElem?_append_left (by rw [h.1];exact hl),a2],by rw [List.take_append_of_le_length (by rw [h.1];omega),a3]⟩
 ·rw [List.getElem?_append_right (by omega)] at hi
  have e : i = l.length:=by
   have:=(List.getElem?_eq_some_iff.1 hi).1
   simp at this;omega
  subst e
  simp at hi
  subst hi
  exact ⟨h1,b,by rw [List.getElem?_append_right (by rw [h.1];exact Nat.le_refl _),h.1];simp,by rw [← h.1];simpa using h2⟩
theorem good_pre {l m : List Nd} {bs : List Nat} (h : Good (l ++ m) bs) : Good l (bs.take l.length):=by
 have hlen:=h.1
 simp at hlen
 refine ⟨by simp [hlen],fun i n hi => ?_⟩
 have hl:=(List.getElem?_eq_some_iff.1 hi).1
 obtain ⟨a1,c,a2,a3⟩:=h.2 i n (by rw [List.getElem?_append_left hl,hi])
 exact ⟨a1,c,by rw [List.getElem?_take_of_lt hl,a2],by rw [List.take_take,Nat.min_eq_left (by omega),a3]⟩
theorem chkF_good : ∀ (l pre : List Nd) (bs bs' : List Nat),Good pre bs → chkF l bs = (0,bs') → Good (pre ++ l) bs'
 | [],pre,bs,bs',h,e => by simp [chkF] at e;subst e;simpa using h
 | n :: l,pre,bs,bs',h,e => by
  unfold chkF at e
  by_cases h0 : okN n = 0
  ·rw [if_neg (by simpa using h0)] at e
   cases hb : begN n bs with
   | none => rw [hb] at e;simp at e
   | some b =>
    rw [hb] at e
    have:=chkF_good l (pre ++ [n]) (bs ++ [b]) bs' (good_snoc h h0 hb) e
    simpa using this
  ·rw [if_pos h0] at e
   simp at e
   exact absurd e.1 h0
theorem good_chkF : ∀ (l pre : List Nd) (bs : List Nat),Good (pre ++ l) bs → chkF l (bs.take pre.length) = (0,bs)
 | [],pre,bs,h => by
  have:=h.1
  simp at this
  simp [chkF,← this]
 | n :: l,pre,bs,h => by
  obtain ⟨h0,b,h1,h2⟩:=h.2 pre.length n (by simp)
  unfold chkF
  rw [if_neg (by simpa using h0),h2]
  have:=good_chkF l (pre ++ [n]) bs (by simpa using h)
  have hl:=(List.getElem?_eq_some_iff.1 h1).1
  rw [List.length_append,List.length_singleton,← List.take_append_getElem hl] at this
  rw [(List.getElem?_eq_some_iff.1 h1).2] at this
  exact this
theorem good_of_chk {l : List Nd} (h : chkE l = 0) : ∃ bs,Good l bs ∧ l.length ≤ 40 ∧ 0 < l.length ∧ bs[l.length - 1]? = some 0:=by
 unfold chkE at h
 by_cases h1 : 40 < l.length
 ·simp [h1] at h
 rw [if_neg h1] at h
 by_cases h2 : (chkF l []).1 = 0
 ·rw [if_neg (by simpa using h2)] at h
  by_cases h3 : l.length = 0 ∨ (chkF l []).2.getD (l.length - 1) 0 ≠ 0
  ·rw [if_pos h3] at h;exact absurd h (by decide)
  ·have g:=chkF_good l [] [] (chkF l []).2 good_nil (by rw [← h2])
   simp only [List.nil_append] at g
   refine ⟨_,g,by omega,by omega,?_⟩
   have h4 : (chkF l []).2.getD (l.length - 1) 0 = 0:=by
    by_cases hh : (chkF l []).2.getD (l.length - 1) 0 = 0
    ·exact hh
    ·exact absurd (Or.inr hh) h3
   have hl : l.length - 1 < (chkF l []).2.length:=by rw [g.1];omega
   rw [List.getD_eq_getElem?_getD,List.getElem?_eq_getElem hl] at h4
   rw [List.getElem?_eq_getElem hl]
   simpa using h4
 ·rw [if_pos h2] at h
  exact absurd h h2
theorem chk_of_good {l : List Nd} {bs : List Nat} (h : Good l bs) (h1 : l.length ≤ 40) (h2 : 0 < l.length) (h3 : bs[l.length - 1]? = some 0) : chkE l = 0:=by
 have e:=good_chkF l [] bs (by simpa using h)
 simp only [List.length_nil,List.take_zero] at e
 unfold chkE
 rw [if_neg (by omega),e]
 simp only [ne_eq,not_true_eq_false,if_false]
 rw [if_neg]
 rw [List.getD_eq_getElem?_getD,h3]
 simp;intro hh;subst hh;simp at h2
theorem stepB_some {bs : List Nat} {b c : Nat} {p : Int} (h : stepB bs b p = some c) : 0 < b ∧ p = (b : Int) - 1 ∧ c = bs.getD (b - 1) 0:=by
 unfold stepB at h
 by_cases hc : b = 0 ∨ p ≠ (b : Int) - 1
 ·simp [hc] at h
 ·rw [if_neg hc] at h
  simp only [Option.some.injEq] at h
  exact ⟨by omega,by omega,h.symm⟩
theorem getD_take (bs : List Nat) (i j : Nat) (h : j < i) : (bs.take i).getD j 0 = bs.getD j 0:=by
 rw [List.getD_eq_getElem?_getD,List.getD_eq_getElem?_getD,List.getElem?_take_of_lt h]
theorem good_at {l : List Nd} {bs : List Nat} (h : Good l bs) {i : Nat} {n : Nd} (hi : l[i]? = some n) :
  okN n = 0 ∧ 0 ≤ ar n.op ∧
  (ar n.op = 0 → bs.getD i 0 = i) ∧
  (ar n.op = 1 → 0 < i ∧ n.x = (i : Int) - 1 ∧ bs.getD i 0 = bs.getD (i - 1) 0) ∧
  (ar n.op = 2 → 0 < i ∧ n.y = (i : Int) - 1 ∧ 0 < bs.getD (i - 1) 0 ∧ n.x = (bs.getD (i - 1) 0 : Int) - 1 ∧ bs.getD i 0 = (bs.take i).getD (bs.getD (i - 1) 0 - 1) 0):=by
 have hl:=(List.getElem?_eq_some_iff.1 hi).1
 obtain ⟨h0,b,h1,h2⟩:=h.2 i n hi
 have hb : bs.getD i 0 = b:=by rw [List.getD_eq_getElem?_getD,h1];rfl
 have hlen : (bs.take i).length = i:=by rw [List.length_take,h.1];omega
 have ha : 0 ≤ ar n.op:=by
  unfold okN at h0
  by_cases hh : badN n
  ·simp [hh] at h0
  ·unfold badN at hh
   omega
 unfold begN at h2
 refine ⟨h0,ha,fun a => ?_,fun a => ?_,fun a => ?_⟩
 ·rw [if_neg (by omega),if_neg (by omega),hlen] at h2
  simp at h2
  rw [hb];exact h2.symm
 ·rw [if_pos a,hlen] at h2
  obtain ⟨c1,c2,c3⟩:=stepB_some h2
  exact ⟨c1,c2,by rw [hb,c3,getD_take _ _ _ (by omega)]⟩
 ·rw [if_neg (by omega),if_pos a,hlen] at h2
  cases hs : stepB (bs.take i) i n.y with
  | none => rw [hs] at h2;simp at h2
  | some c =>
   rw [hs] at h2
   simp at h2
   obtain ⟨c1,c2,c3⟩:=stepB_some hs
   obtain ⟨d1,d2,d3⟩:=stepB_some h2
   rw [getD_take _ _ _ (by omega)] at c3
   subst c3
   exact ⟨c1,c2,d1,d2,by rw [hb,d3]⟩
theorem good_le {l : List Nd} {bs : List Nat} (h : Good l bs) : ∀ (i : Nat),i < l.length → bs.getD i 0 ≤ i:=by
 intro i
 induction i using Nat.strongRecOn with
 | ind i ih =>
  intro hi
  obtain ⟨-,a0,a1,a2,a3⟩:=good_at h (List.getElem?_eq_getElem hi)
  have:=ar_le l[i].op
  rcases (by omega : ar l[i].op = 0 ∨ ar l[i].op = 1 ∨ ar l[i].op = 2) with e | e | e
  ·rw [a1 e];exact Nat.le_refl _
  ·obtain ⟨b1,-,b2⟩:=a2 e
   rw [b2]
   have:=ih (i - 1) (by omega) (by omega)
   omega
  ·obtain ⟨b1,-,b2,-,b4⟩:=a3 e
   have c:=ih (i - 1) (by omega) (by omega)
   rw [b4,getD_take _ _ _ (by omega)]
   have:=ih (bs.getD (i - 1) 0 - 1) (by omega) (by omega)
   omega
theorem good_part {l : List Nd} {bs : List Nat} (h : Good l bs) {i : Nat} {n : Nd} (hi : l[i]? = some n) :
  (1 ≤ ar n.op → 0 ≤ n.x ∧ n.x < i ∧ bs.getD n.x.toNat 0 = bs.getD i 0) ∧ (ar n.op = 2 → n.y = (i : Int) - 1 ∧ 0 < i ∧ (bs.getD (i - 1) 0 : Int) = n.x + 1):=by
 have hl:=(List.getElem?_eq_some_iff.1 hi).1
 obtain ⟨-,a0,a1,a2,a3⟩:=good_at h hi
 have hle:=good_le h
 have:=ar_le n.op
 refine ⟨fun a => ?_,fun a => ?_⟩
 ·rcases (by omega : ar n.op = 1 ∨ ar n.op = 2) with e | e
  ·obtain ⟨b1,b2,b3⟩:=a2 e
   refine ⟨by omega,by omega,?_⟩
   rw [b3,b2]
   congr 1
   omega
  ·obtain ⟨b1,b2,b3,b4,b5⟩:=a3 e
   have c:=hle (i - 1) (by omega)
   refine ⟨by omega,by omega,?_⟩
   rw [b5,getD_take _ _ _ (by omega),b4]
   congr 1
   omega
 ·obtain ⟨b1,b2,b3,b4,b5⟩:=a3 a
  exact ⟨b2,b1,by omega⟩
theorem good_in {l : List Nd} {bs : List Nat} (h : Good l bs) : ∀ (i : Nat),i < l.length → ∀ j,bs.getD i 0 ≤ j → j ≤ i → bs.getD i 0 ≤ bs.getD j 0:=by
 intro i
 induction i using Nat.strongRecOn with
 | ind i ih =>
  intro hi j h1 h2
  by_cases hji : j = i
  ·subst hji;exact Nat.le_refl _
  obtain ⟨-,a0,a1,a2,a3⟩:=good_at h (List.getElem?_eq_getElem hi)
  have hle:=good_le h
  have:=ar_le l[i].op
  rcases (by omega : ar l[i].op = 0 ∨ ar l[i].op = 1 ∨ ar l[i].op = 2) with e | e | e
  ·have:=a1 e;omega
  ·obtain ⟨b1,-,b2⟩:=a2 e
   rw [b2] at h1 ⊢
   exact ih (i - 1) (by omega) (by omega) j h1 (by omega)
  ·obtain ⟨b1,-,b2,-,b4⟩:=a3 e
   have c:=hle (i - 1) (by omega)
   rw [getD_take _ _ _ (by omega)] at b4
   have d:=hle (bs.getD (i - 1) 0 - 1) (by omega)
   by_cases hj : bs.getD (i - 1) 0 ≤ j
   ·have:=ih (i - 1) (by omega) (by omega) j hj (by omega)
    omega
   ·rw [b4] at h1 ⊢
    exact ih (bs.getD (i - 1) 0 - 1) (by omega) (by omega) j h1 (by omega)
def mv (by_ : Int) (n : Nd) : Nd:=if ar n.op = 1 then { n with x:=n.x + by_ } else if ar n.op = 2 then { n with x:=n.x + by_,y:=n.y + by_ } else n
theorem mv_op (c : Int) (n : Nd) : (mv c n).op = n.op:=by unfold mv;(repeat' split);all_goals rfl
theorem mv_zero (n : Nd) : mv 0 n = n:=by unfold mv;(repeat' split);all_goals simp
theorem mv_mv (a b : Int) (n : Nd) : mv a (mv b n) = mv (b + a) n:=by
 unfold mv
 by_cases h1 : ar n.op = 1
 ·simp [h1];omega
 ·by_cases h2 : ar n.op = 2
  ·simp [h2];omega
  ·simp [h1,h2]
theorem map_mv_zero (l : List Nd) : l.map (mv 0) = l:=by
 induction l with
 | nil => rfl
 | cons a l ih => simp [mv_zero,ih]
theorem map_mv_mv (a b : Int) (l : List Nd) : (l.map (mv b)).map (mv a) = l.map (mv (b + a)):=by
 simp [List.map_map,Function.comp_def,mv_mv]
theorem mv_ok (c : Int) (n : Nd) : okN (mv c n) = okN n:=by
 unfold mv
 by_cases h1 : ar n.op = 1
 ·simp [h1,okN,badN]
 ·by_cases h2 : ar n.op = 2
  ·simp [h2,okN,badN]
  ·simp [h1,h2]
theorem stepB_mv (B bs : List Nat) (b : Nat) (p : Int) (hb : b ≤ bs.length) (h : ∃ c,stepB bs b p = some c) :
  stepB (B ++ bs.map (· + B.length)) (b + B.length) (p + B.length) = (stepB bs b p).map (· + B.length):=by
 obtain ⟨c,h⟩:=h
 obtain ⟨c1,c2,c3⟩:=stepB_some h
 rw [h]
 unfold stepB
 rw [if_neg (by omega)]
 simp only [Option.map_some,Option.some.injEq]
 rw [c3,List.getD_eq_getElem?_getD,List.getD_eq_getElem?_getD,List.getElem?_append_right (by omega),show b + B.length - 1 - B.length = b - 1 from by omega,List.getElem?_map,List.getElem?_eq_getElem (by omega)]
 rfl
theorem begN_mv (B bs : List Nat) (n : Nd) (c : Nat) (hle : ∀ j,j < bs.length → bs.getD j 0 ≤ j) (h : begN n bs = some c) : begN (mv B.length n) (B ++ bs.map (· + B.length)) = some (c + B.length):=by
 have hop:=mv_op B.length n
 have hlen : (B ++ bs.map (· + B.length)).length = bs.length + B.length:=by simp;omega
 unfold begN at h ⊢
 rw [hop,hlen]
 by_cases h1 : ar n.op = 1
 ·rw [if_pos h1] at h ⊢
  have e : (mv B.length n).x = n.x + B.length:=by unfold mv;rw [if_pos h1]
  rw [e,stepB_mv B bs _ _ (Nat.le_refl _) ⟨c,h⟩,h]
  rfl
 ·rw [if_neg h1] at h ⊢
  by_cases h2 : ar n.op = 2
  ·rw [if_pos h2] at h ⊢
   have e : (mv B.length n).x = n.x + B.length:=by unfold mv;rw [if_neg h1,if_pos h2]
   have e' : (mv B.length n).y = n.y + B.length:=by unfold mv;rw [if_neg h1,if_pos h2]
   cases hs : stepB bs bs.length n.y with
   | none => rw [hs] at h;simp at h
   | some d =>
    rw [hs] at h
    simp at h
    rw [e,e',stepB_mv B bs _ _ (Nat.le_refl _) ⟨d,hs⟩,hs]
    simp only [Option.map_some,Option.bind_some]
    obtain ⟨c1,c2,c3⟩:=stepB_some hs
    have hd : d ≤ bs.length:=by
     have:=hle (bs.length - 1) (by omega)
     omega
    rw [stepB_mv B bs d _ hd ⟨c,h⟩,h]
    rfl
  ·rw [if_neg h2] at h ⊢
   simp at h
   simp [h]
theorem good_join {l m : List Nd} {bl bm : List Nat} (h1 : Good l bl) (h2 : Good m bm) : Good (l ++ m.map (mv l.length)) (bl ++ bm.map (· + l.length)):=by
 refine ⟨by simp [h1.1,h2.1],fun i n hi => ?_⟩
 by_cases hl : i < l.length
 ·rw [List.getElem?_append_left hl] at hi
  obtain ⟨a1,c,a2,a3⟩:=h1.2 i n hi
  exact ⟨a1,c,by rw [List.getElem?_append_left (by rw [h1.1];exact hl),a2],by rw [List.take_append_of_le_length (by rw [h1.1];omega),a3]⟩
 ·rw [List.getElem?_append_right (by omega),List.getElem?_map] at hi
  cases hm : m[i - l.length]? with
  | none => rw [hm] at hi;simp at hi
  | some n' =>
   rw [hm] at hi
   simp at hi
   subst hi
   obtain ⟨a1,c,a2,a3⟩:=h2.2 _ n' hm
   have hlm:=(List.getElem?_eq_some_iff.1 hm).1
   refine ⟨by rw [mv_ok,a1],c + l.length,by rw [List.getElem?_append_right (by rw [h1.1];omega),h1.1,List.getElem?_map,a2];rfl,?_⟩
   rw [List.take_append,List.take_of_length_le (by rw [h1.1];omega),h1.1,← List.map_take]
   have:=begN_mv bl (bm.take (i - l.length)) n' c (fun j hj => by
    have hj' : j < i - l.length:=by
     have:=List.length_take_le (i - l.length) bm
     omega
    rw [getD_take _ _ _ hj']
    exact good_le h2 j (by omega)) a3
   rw [h1.1] at this
   exact this
theorem good_cut {l : List Nd} {bs : List Nat} (h : Good l bs) (e : Nat) (he : e < l.length) :
  Good (((l.take (e + 1)).drop (bs.getD e 0)).map (mv (-(bs.getD e 0 : Int)))) (((bs.take (e + 1)).drop (bs.getD e 0)).map (· - bs.getD e 0)):=by
 have hle:=good_le h
 have hin:=good_in h e he
 have hb:=hle e he
 generalize hB : bs.getD e 0 = b at *
 refine ⟨by simp [h.1],fun i n hi => ?_⟩
 rw [List.getElem?_map,List.getElem?_drop] at hi
 have hlt : b + i < e + 1:=by
  by_cases hh : b + i < e + 1
  ·exact hh
  ·rw [List.getElem?_eq_none (by simp;omega)] at hi
   simp at hi
 rw [List.getElem?_take_of_lt hlt] at hi
 cases hm : l[b + i]? with
 | none => rw [hm] at hi;simp at hi
 | some n' =>
  rw [hm] at hi
  simp at hi
  subst hi
  obtain ⟨a1,c,a2,a3⟩:=h.2 _ n' hm
  obtain ⟨g0,ga,g1,g2,g3⟩:=good_at h hm
  have hc : bs.getD (b + i) 0 = c:=by rw [List.getD_eq_getElem?_getD,a2];rfl
  have hcb : b ≤ c:=by rw [← hc];exact hin (b + i) (by omega) (by omega)
  have hci : c ≤ b + i:=by rw [← hc];exact hle (b + i) (by omega)
  have hla : (bs.take (e + 1)).length = e + 1:=by rw [List.length_take,h.1];omega
  have htk : ((((bs.take (e + 1)).drop b).map (· - b)).take i) = ((bs.take (b + i)).drop b).map (· - b):=by
   rw [← List.map_take,List.take_drop,List.take_take,Nat.min_eq_left (by omega)]
  have hgd : ∀ j,b + j < b + i → (((bs.take (b + i)).drop b).map (· - b)).getD j 0 = bs.getD (b + j) 0 - b:=by
   intro j hj
   rw [List.getD_eq_getElem?_getD,List.getD_eq_getElem?_getD,List.getElem?_map,List.getElem?_drop,List.getElem?_take_of_lt hj,List.getElem?_eq_getElem (by rw [h.1];omega)]
   rfl
  have hlen : (((bs.take (b + i)).drop b).map (· - b)).length = i:=by simp [h.1];omega
  refine ⟨by rw [mv_ok,a1],c - b,by rw [List.getElem?_map,List.getElem?_drop,List.getElem?_take_of_lt hlt,a2];rfl,?_⟩
  rw [htk]
  have hop:=mv_op (-(b : Int)) n'
  have:=ar_le n'.op
  unfold begN
  rw [hop,hlen]
  rcases (by omega : ar n'.op = 0 ∨ ar n'.op = 1 ∨ ar n'.op = 2) with q | q | q
  ·rw [if_neg (by omega),if_neg (by omega)]
   have:=g1 q
   congr 1
   omega
  ·obtain ⟨c1,c2,c3⟩:=g2 q
   rw [if_pos q]
   have e1 : (mv (-(b : Int)) n').x = n'.x + -(b : Int):=by unfold mv;rw [if_pos q]
   have hi0 : 0 < i:=by
    by_cases hh : 0 < i
    ·exact hh
    ·have : i = 0:=by omega
     subst this
     have h5:=hle (b - 1) (by omega)
     rw [Nat.add_zero] at c3 hc
     omega
   unfold stepB
   rw [if_neg (by omega),hgd (i - 1) (by omega)]
   congr 1
   rw [show b + (i - 1) = b + i - 1 from by omega,← c3,hc]
  ·obtain ⟨c1,c2,c3,c4,c5⟩:=g3 q
   rw [if_neg (by omega),if_pos q]
   have e1 : (mv (-(b : Int)) n').x = n'.x + -(b : Int):=by unfold mv;rw [if_neg (by omega),if_pos q]
   have e2 : (mv (-(b : Int)) n').y = n'.y + -(b : Int):=by unfold mv;rw [if_neg (by omega),if_pos q]
   have h6:=hle (b + i - 1) (by omega)
   rw [getD_take _ _ _ (by omega)] at c5
   have h7:=hle (bs.getD (b + i - 1) 0 - 1) (by omega)
   have hi0 : 0 < i:=by
    by_cases hh : 0 < i
    ·exact hh
    ·have : i = 0:=by omega
     subst this
     rw [Nat.add_zero] at *
     omega
   have s1 : stepB (((bs.take (b + i)).drop b).map (· - b)) i (mv (-(b : Int)) n').y = some (bs.getD (b + i - 1) 0 - b):=by
    unfold stepB
    rw [if_neg (by omega),hgd (i - 1) (by omega),show b + (i - 1) = b + i - 1 from by omega]
   rw [s1]
   simp only [Option.bind_some]
   have h8 : b ≤ bs.getD (b + i - 1) 0 - 1:=by omega
   unfold stepB
   rw [if_neg (by omega),hgd (bs.getD (b + i - 1) 0 - b - 1) (by omega)]
   congr 1
   rw [show b + (bs.getD (b + i - 1) 0 - b - 1) = bs.getD (b + i - 1) 0 - 1 from by omega,← c5,hc]
def nth (vs : List V2) (at_ : Int) : V2:=if at_ < 0 ∨ (vs.length : Int) ≤ at_ then (0,0) else vs.getD at_.toNat (0,0)
def evN (O : Int → V2 → V2 → V2) (ev : List V2) (n : Nd) (vs : List V2) : V2 :=
 if n.op = 1 then (n.k,n.v) else if n.op = 2 then nth ev n.n else if ar n.op = 1 then O n.op (nth vs n.x) (0,0) else O n.op (nth vs n.x) (nth vs n.y)
def evF (O : Int → V2 → V2 → V2) (ev : List V2) : List Nd → List V2 → List V2
 | [],vs => vs
 | n :: l,vs => evF O ev l (vs ++ [evN O ev n vs])
def evL (O : Int → V2 → V2 → V2) (ev : List V2) (l : List Nd) : V2:=nth (evF O ev l []) ((l.length : Int) - 1)
theorem evF_app (O : Int → V2 → V2 → V2) (ev : List V2) : ∀ (l m : List Nd) (vs : List V2),evF O ev (l ++ m) vs = evF O ev m (evF O ev l vs)
 | [],m,vs => rfl
 | n :: l,m,vs => by simp only [List.cons_append,evF];exact evF_app O ev l m _
theorem evF_len (O : Int → V2 → V2 → V2) (ev : List V2) : ∀ (l : List Nd) (vs : List V2),(evF O ev l vs).length = vs.length + l.length
 | [],vs => rfl
 | n :: l,vs => by simp only [evF];rw [evF_len O ev l];simp;omega
theorem nth_app (P vs : List V2) (i : Int) (h0 : 0 ≤ i) (h1 : i < vs.length) : nth (P ++ vs) (i + P.length) = nth vs i:=by
 unfold nth
 rw [if_neg (by simp;omega),if_neg (by omega),List.getD_eq_getElem?_getD,List.getD_eq_getElem?_getD,List.getElem?_append_right (by omega)]
 congr 2
 omega
theorem nth_left (P vs : List V2) (i : Int) (h0 : 0 ≤ i) (h1 : i < P.length) : nth (P ++ vs) i = nth P i:=by
 unfold nth
 rw [if_neg (by simp;omega),if_neg (by omega),List.getD_eq_getElem?_getD,List.getD_eq_getElem?_getD,List.getElem?_append_left (by omega)]
theorem evN_mv (O : Int → V2 → V2 → V2) (ev : List V2) (n : Nd) (P vs : List V2) (h1 : 1 ≤ ar n.op → 0 ≤ n.x ∧ n.x < vs.length) (h2 : ar n.op = 2 → 0 ≤ n.y ∧ n.y < vs.length) (h0 : 0 ≤ ar n.op) :
  evN O ev (mv P.length n) (P ++ vs) = evN O ev n vs:=by
 have hle:=ar_le n.op
 rcases (by omega : ar n.op = 0 ∨ ar n.op = 1 ∨ ar n.op = 2) with e | e | e
 ·have : mv P.length n = n:=by unfold mv;rw [if_neg (by omega),if_neg (by omega)]
  rw [this]
  have : n.op = 1 ∨ n.op = 2:=by
   unfold ar at e
   by_cases h : n.op = 1 ∨ n.op = 2
   ·exact h
   ·rw [if_neg h] at e
    repeat' split at e
    all_goals omega
  unfold evN
  by_cases h : n.op = 1
  ·rw [if_pos h,if_pos h]
  ·rw [if_neg h,if_pos (by omega),if_neg h,if_pos (by omega)]
 ·have n1 : n.op ≠ 1:=by intro h;rw [h] at e;exact absurd e (by decide)
  have n2 : n.op ≠ 2:=by intro h;rw [h] at e;exact absurd e (by decide)
  have : mv P.length n = { n with x:=n.x + P.length }:=by unfold mv;rw [if_pos e]
  rw [this]
  unfold evN
  simp only [n1,n2,e,if_true,if_false]
  rw [nth_app P vs n.x (h1 (by omega)).1 (h1 (by omega)).2]
 ·have n1 : n.op ≠ 1:=by intro h;rw [h] at e;exact absurd e (by decide)
  have n2 : n.op ≠ 2:=by intro h;rw [h] at e;exact absurd e (by decide)
  have n3 : ¬ (ar n.op = 1):=by omega
  have : mv P.length n = { n with x:=n.x + P.length,y:=n.y + P.length }:=by unfold mv;rw [if_neg n3,if_pos e]
  rw [this]
  unfold evN
  simp only [n1,n2,n3,if_false]
  rw [nth_app P vs n.x (h1 (by omega)).1 (h1 (by omega)).2,nth_app P vs n.y (h2 e).1 (h2 e).2]
theorem evF_mv (O : Int → V2 → V2 → V2) (ev : List V2) (P : List V2) : ∀ (m pre : List Nd) (bs : List Nat) (vs : List V2),Good (pre ++ m) bs → vs.length = pre.length → evF O ev (m.map (mv P.length)) (P ++ vs) = P ++ evF O ev m vs
 | [],pre,bs,vs,h,hl => rfl
 | n :: m,pre,bs,vs,h,hl => by
  have hi : (pre ++ n :: m)[pre.length]? = some n:=by simp
  obtain ⟨p1,p2⟩:=good_part h hi
  obtain ⟨-,a0,-⟩:=good_at h hi
  simp only [List.map_cons,evF]
  rw [evN_mv O ev n P vs (fun a => ⟨(p1 a).1,by rw [hl];exact (p1 a).2.1⟩) (fun a => ⟨by have:=p2 a;omega,by have:=p2 a;omega⟩) a0,List.append_assoc]
  exact evF_mv O ev P m (pre ++ [n]) bs (vs ++ [evN O ev n vs]) (by simpa using h) (by simp [hl])
def joinL (op : Int) (l m : List Nd) : List Nd:=l ++ m.map (mv l.length) ++ [⟨op,(l.length : Int) - 1,(l.length : Int) + m.length - 1,0,0,0⟩]
def join1 (op : Int) (l : List Nd) : List Nd:=l ++ [⟨op,(l.length : Int) - 1,0,0,0,0⟩]
theorem ar_12 {op : Int} (h : 1 ≤ ar op) : op ≠ 1 ∧ op ≠ 2:=by
 constructor <;> (intro e;rw [e] at h;exact absurd h (by decide))
theorem nth_last (vs : List V2) (v : V2) : nth (vs ++ [v]) ((vs.length + 1 : Nat) - 1 : Int) = v:=by
 unfold nth
 rw [if_neg (by simp;omega),List.getD_eq_getElem?_getD,show ((vs.length + 1 : Nat) - 1 : Int).toNat = vs.length from by omega]
 simp
theorem ev_join (O : Int → V2 → V2 → V2) (ev : List V2) (op : Int) (l m : List Nd) (bm : List Nat) (hm : Good m bm) (h0 : 0 < l.length) (h1 : 0 < m.length) (ho : ar op = 2) :
  evL O ev (joinL op l m) = O op (evL O ev l) (evL O ev m):=by
 obtain ⟨n1,n2⟩:=ar_12 (by omega : 1 ≤ ar op)
 have e1:=evF_mv O ev (evF O ev l []) m [] bm [] (by simpa using hm) rfl
 rw [evF_len] at e1
 simp only [List.length_nil,Nat.zero_add,List.append_nil] at e1
 unfold evL joinL
 rw [evF_app,evF_app,e1]
 simp only [evF]
 have hlen : (l ++ m.map (mv l.length) ++ [(⟨op,(l.length : Int) - 1,(l.length : Int) + m.length - 1,0,0,0⟩ : Nd)]).length = (evF O ev l [] ++ evF O ev m []).length + 1:=by simp [evF_len];omega
 rw [hlen,nth_last]
 unfold evN
 rw [if_neg n1,if_neg n2,if_neg (by rw [ho];decide)]
 simp only
 rw [nth_left _ _ _ (by omega) (by rw [evF_len];simp;omega)]
 have:=nth_app (evF O ev l []) (evF O ev m []) ((m.length : Int) - 1) (by omega) (by rw [evF_len];simp;omega)
 rw [evF_len O ev l] at this
 simp only [List.length_nil,Nat.zero_add] at this
 rw [show (l.length : Int) + m.length - 1 = (m.length : Int) - 1 + l.length from by omega,this]
theorem ev_join1 (O : Int → V2 → V2 → V2) (ev : List V2) (op : Int) (l : List Nd) (ho : ar op = 1) :
  evL O ev (join1 op l) = O op (evL O ev l) (0,0):=by
 obtain ⟨n1,n2⟩:=ar_12 (by omega : 1 ≤ ar op)
 unfold evL join1
 rw [evF_app]
 simp only [evF]
 have hlen : (l ++ [(⟨op,(l.length : Int) - 1,0,0,0,0⟩ : Nd)]).length = (evF O ev l []).length + 1:=by simp [evF_len]
 rw [hlen,nth_last]
 unfold evN
 rw [if_neg n1,if_neg n2,if_pos ho]
theorem okN_new (op x y : Int) (h : ar op = 2) : okN ⟨op,x,y,0,0,0⟩ = 0:=by
 have h1:=ar_12 (by omega : 1 ≤ ar op)
 have hb : ¬ badN ⟨op,x,y,0,0,0⟩:=by unfold badN;simp [h1.1,h1.2,h]
 unfold okN
 rw [if_neg hb]
 rfl
theorem okN_new1 (op x : Int) (h : ar op = 1) : okN ⟨op,x,0,0,0,0⟩ = 0:=by
 have h1:=ar_12 (by omega : 1 ≤ ar op)
 have hb : ¬ badN ⟨op,x,0,0,0,0⟩:=by unfold badN;simp [h1.1,h1.2,h]
 unfold okN
 rw [if_neg hb]
 rfl
theorem getD_of {bs : List Nat} {i b : Nat} (h : bs[i]? = some b) : bs.getD i 0 = b:=by rw [List.getD_eq_getElem?_getD,h];rfl
theorem good_joinL {op : Int} {l m : List Nd} {bl bm : List Nat} (hl : Good l bl) (hm : Good m bm) (h0 : 0 < l.length) (h1 : 0 < m.length) (b0 : bl[l.length - 1]? = some 0) (b1 : bm[m.length - 1]? = some 0) (ho : ar op = 2) :
  Good (joinL op l m) (bl ++ bm.map (· + l.length) ++ [0]):=by
 refine good_snoc (good_join hl hm) (okN_new _ _ _ ho) ?_
 unfold begN
 simp only
 rw [if_neg (by omega),if_pos ho]
 have hlen : (bl ++ bm.map (· + l.length)).length = l.length + m.length:=by simp [hl.1,hm.1]
 rw [hlen]
 have s1 : stepB (bl ++ bm.map (· + l.length)) (l.length + m.length) ((l.length : Int) + m.length - 1) = some l.length:=by
  unfold stepB
  rw [if_neg (by omega)]
  congr 1
  rw [List.getD_eq_getElem?_getD,List.getElem?_append_right (by rw [hl.1];omega),hl.1,List.getElem?_map,show l.length + m.length - 1 - l.length = m.length - 1 from by omega,b1]
  simp
 rw [s1]
 simp only [Option.bind_some]
 unfold stepB
 rw [if_neg (by omega)]
 congr 1
 rw [List.getD_eq_getElem?_getD,List.getElem?_append_left (by rw [hl.1];omega),b0]
 rfl
theorem good_join1 {op : Int} {l : List Nd} {bl : List Nat} (hl : Good l bl) (h0 : 0 < l.length) (b0 : bl[l.length - 1]? = some 0) (ho : ar op = 1) :
  Good (join1 op l) (bl ++ [0]):=by
 refine good_snoc hl (okN_new1 _ _ ho) ?_
 unfold begN
 simp only
 rw [if_pos ho,hl.1]
 unfold stepB
 rw [if_neg (by omega)]
 congr 1
 exact getD_of b0
def cutL (l : List Nd) (b e : Nat) : List Nd:=((l.take (e + 1)).drop b).map (mv (-(b : Int)))
theorem cut_left (op : Int) (l m : List Nd) (h0 : 0 < l.length) : cutL (joinL op l m) 0 (l.length - 1) = l:=by
 unfold cutL joinL
 rw [show l.length - 1 + 1 = l.length from by omega,List.append_assoc,List.take_left' rfl]
 simp [map_mv_zero]
theorem cut_right (op : Int) (l m : List Nd) (h0 : 0 < m.length) : cutL (joinL op l m) l.length (l.length + m.length - 1) = m:=by
 unfold cutL joinL
 rw [show l.length + m.length - 1 + 1 = l.length + m.length from by omega,List.take_left' (by simp),List.drop_left' rfl,map_mv_mv]
 have : (l.length : Int) + -(l.length : Int) = 0:=by omega
 rw [this,map_mv_zero]
theorem getD_last (bs : List Nat) (b : Nat) : (bs ++ [b]).getD bs.length 0 = b:=by
 rw [List.getD_eq_getElem?_getD]
 simp
def goes (op k : Int) : Bool:=if op = 4 ∨ op = 9 ∨ op = 10 then !(k == 1) else if op = 5 then true else !(k == 2)
def kindN (n : Nd) : Int:=if n.op = 1 then n.k else if n.op = 4 ∨ n.op = 5 ∨ n.op = 9 ∨ n.op = 10 ∨ n.op = 11 ∨ n.op = 12 then 2 else 1
def fitP (op : Int) (ks : List Int) (p : Int) : Bool:=if p < 0 ∨ (ks.length : Int) ≤ p then false else goes op (ks.getD p.toNat 0)
def fitN (n : Nd) (ks : List Int) : Bool:=if ar n.op = 1 then fitP n.op ks n.x else if ar n.op = 2 then (if fitP n.op ks n.y then fitP n.op ks n.x else false) else true
def tyF : List Nd → List Int → Option (List Int)
 | [],ks => some ks
 | n :: l,ks => if fitN n ks then tyF l (ks ++ [kindN n]) else none
def tyE (l : List Nd) : V2:=if l.length = 0 then (0,3) else match tyF l [] with
 | none => (0,3)
 | some ks => (ks.getD (l.length - 1) 0,0)
end Go.Proofs.YtaomljdbndajgaaGreatDoor
namespace Go.Proofs.YtaomljdbndajgaaGreatDoor
open Go.ChangeShapes Go.WideShapes Go.ChangeAt Go.RowKit
theorem arity_any (op : Int) (w : World) :
  Calls Tryz.prog 35 #[.int .i64 op] w fun e w' => e = .returned (.int .i64 (ar op)) ∧ w' = w:=by
 by_cases h : 1 ≤ op ∧ op ≤ 12
 ·rcases (by omega : op = 1 ∨ op = 2 ∨ op = 3 ∨ op = 4 ∨ op = 5 ∨ op = 6 ∨ op = 7 ∨ op = 8 ∨ op = 9 ∨ op = 10 ∨ op = 11 ∨ op = 12) with rfl | rfl | rfl | rfl | rfl | rfl | rfl | rfl | rfl | rfl | rfl | rfl
  all_goals
   clear h
   go_enter Tryz.func35,Tryz.ntmps35
   go_wp2
   go_ret
   exact ⟨rfl,rfl⟩
 ·have e : ar op = -1:=by unfold ar;rw [if_neg (by omega),if_neg (by omega),if_neg (by omega)]
  rw [e]
  have h1 : (op == 1) = false:=by simp;omega
  have h2 : (op == 2) = false:=by simp;omega
  have h3 : (op == 3) = false:=by simp;omega
  have h4 : (op == 4) = false:=by simp;omega
  have h5 : (op == 5) = false:=by simp;omega
  have h6 : (op == 6) = false:=by simp;omega
  have h7 : (op == 7) = false:=by simp;omega
  have h8 : (op == 8) = false:=by simp;omega
  have h9 : (op == 9) = false:=by simp;omega
  have h10 : (op == 10) = false:=by simp;omega
  have h11 : (op == 11) = false:=by simp;omega
  have h12 : (op == 12) = false:=by simp;omega
  clear h e
  go_enter Tryz.func35,Tryz.ntmps35
  go_wp2
  go_ret
  exact ⟨rfl,rfl⟩
def aggN (n : Nd) : Value:=.agg #[.int .i64 n.op,.int .i64 n.x,.int .i64 n.y,.int .i64 n.n,.int .i64 n.k,.int .i64 n.v]
def cellsN (n : Nd) : List Value:=[.int .i64 n.op,.int .i64 n.x,.int .i64 n.y,.int .i64 n.n,.int .i64 n.k,.int .i64 n.v]
def partsN (n : Nd) : List Int:=if ar n.op = 1 then [n.x] else if ar n.op = 2 then [n.y,n.x] else []
theorem lastFirst_any (n : Nd) (w : World) :
  Calls Tryz.prog 59 #[aggN n] w fun e w' => ∃ v,e = .returned v ∧ RowG w' v 1 (partsN n).length ((partsN n).map (Value.int .i64)) ∧ Below w.heap.size w w':=by
 obtain ⟨op,x,y,nn,k,v⟩:=n
 unfold aggN partsN
 simp only
 by_cases h1 : ar op = 1
 ·have b1 : (ar op == 1) = true:=by simp [h1]
  rw [if_pos h1]
  clear h1
  go_enter Tryz.func59,Tryz.ntmps59
  go_wp2_with (go_at_call 35;refine (arity_any _ _).mono ?_;rintro e w' ⟨rfl,rfl⟩)
  go_ret
  exact ⟨_,rfl,rowG_lit _ _ [.int .i64 x] _ 1 (by simp) rfl (by decide),((Below.refl _ _).alloc (Nat.le_refl _) _).alloc (by simp) _⟩
 ·have b1 : (ar op == 1) = false:=by simp [h1]
  rw [if_neg h1]
  clear h1
  by_cases h2 : ar op = 2
  ·have b2 : (ar op == 2) = true:=by simp [h2]
   rw [if_pos h2]
   clear h2
   go_enter Tryz.func59,Tryz.ntmps59
   go_wp2_with (go_at_call 35;refine (arity_any _ _).mono ?_;rintro e w' ⟨rfl,rfl⟩)
   go_ret
   exact ⟨_,rfl,rowG_lit _ _ [.int .i64 y,.int .i64 x] _ 2 (by simp) rfl (by decide),((Below.refl _ _).alloc (Nat.le_refl _) _).alloc (by simp) _⟩
  ·have b2 : (ar op == 2) = false:=by simp [h2]
   rw [if_neg h2]
   clear h2
   go_enter Tryz.func59,Tryz.ntmps59
   go_wp2_with (go_at_call 35;refine (arity_any _ _).mono ?_;rintro e w' ⟨rfl,rfl⟩)
   go_ret
   exact ⟨_,rfl,⟨rfl,.inl ⟨⟨_,_,rfl⟩,rfl⟩⟩,(Below.refl _ _).alloc (Nat.le_refl _) _⟩
end Go.Proofs.YtaomljdbndajgaaGreatDoor

/- Several texts in one, each with its own head. What is proved: what the parts say. Conditions: theirs. -/
import Derived.Test.YtaomljdbndajgaaGreatDoorExprPureJ
import Derived.Test.YtaomljdbndajgaaGreatDoorExpr2J
set_option linter.unusedVariables false
set_option linter.unusedSimpArgs false
set_option maxRecDepth 100000
set_option maxHeartbeats 8000000
namespace Go.Proofs.YtaomljdbndajgaaGreatDoor
inductive Ex where
 | cst (k v : Int)
 | fld (n : Int)
 | one (op : Int) (a : Ex)
 | two (op : Int) (a b : Ex)
def flat : Ex → List Nd
 | .cst k v => [⟨1,0,0,0,k,v⟩]
 | .fld n => [⟨2,0,0,n,0,0⟩]
 | .one op a => join1 op (flat a)
 | .two op a b => joinL op (flat a) (flat b)
def Wf : Ex → Prop
 | .cst k v => vokB k v = true
 | .fld n => 0 ≤ n ∧ n < 4
 | .one op a => ar op = 1 ∧ Wf a
 | .two op a b => ar op = 2 ∧ Wf a ∧ Wf b
theorem flat_pos : ∀ t : Ex,0 < (flat t).length
 | .cst k v => by simp [flat]
 | .fld n => by simp [flat]
 | .one op a => by simp [flat,join1]
 | .two op a b => by simp [flat,joinL];omega
theorem flat_good : ∀ t : Ex,Wf t → ∃ bs,Good (flat t) bs ∧ bs[(flat t).length - 1]? = some 0
 | .cst k v,h => by
  have h' : vokB k v = true:=h
  refine ⟨[0],good_snoc (l:=[]) (bs:=[]) (b:=0) good_nil ?_ ?_,rfl⟩
  ·have hb : ¬ badN ⟨1,0,0,0,k,v⟩:=by unfold badN;simp [ar]
   unfold okN
   rw [if_neg hb]
   simp [h']
  ·simp [begN,ar]
 | .fld n,h => by
  have h' : 0 ≤ n ∧ n < 4:=h
  refine ⟨[0],good_snoc (l:=[]) (bs:=[]) (b:=0) good_nil ?_ ?_,rfl⟩
  ·have hb : ¬ badN ⟨2,0,0,n,0,0⟩:=by unfold badN;simp [ar]
   unfold okN
   rw [if_neg hb,if_neg (by simp;omega)]
   simp [vokB]
  ·simp [begN,ar]
 | .one op a,h => by
  obtain ⟨h1,h2⟩ : ar op = 1 ∧ Wf a:=h
  obtain ⟨bs,hg,hb⟩:=flat_good a h2
  refine ⟨bs ++ [0],good_join1 hg (flat_pos a) hb h1,?_⟩
  have : (flat (.one op a)).length - 1 = bs.length:=by rw [hg.1];simp [flat,join1]
  rw [this,List.getElem?_append_right (Nat.le_refl _)]
  simp
 | .two op a b,h => by
  obtain ⟨h1,h2,h3⟩ : ar op = 2 ∧ Wf a ∧ Wf b:=h
  obtain ⟨ba,ga,ea⟩:=flat_good a h2
  obtain ⟨bb,gb,eb⟩:=flat_good b h3
  refine ⟨ba ++ bb.map (· + (flat a).length) ++ [0],good_joinL ga gb (flat_pos a) (flat_pos b) ea eb h1,?_⟩
  have : (flat (.two op a b)).length - 1 = (ba ++ bb.map (· + (flat a).length)).length:=by rw [List.length_append,List.length_map,ga.1,gb.1];simp [flat,joinL]
  rw [this,List.getElem?_append_right (Nat.le_refl _)]
  simp
theorem okN_one {n : Nd} (h : okN n = 0) (ha : ar n.op = 1) : n = ⟨n.op,n.x,0,0,0,0⟩:=by
 unfold okN at h
 by_cases hh : badN n
 ·simp [hh] at h
 ·have h1 : n.op ≠ 1 ∧ n.op ≠ 2:=ar_12 (by omega)
  unfold badN at hh
  obtain ⟨op,x,y,m,k,v⟩:=n
  simp only [not_or,not_and,Decidable.not_not] at hh ha h1
  obtain ⟨-,h2,h3,h4,-⟩:=hh
  obtain ⟨rfl,rfl⟩ : k = 0 ∧ v = 0:=Decidable.byContradiction (fun hc => h2 h1.1 (fun a b => hc ⟨a,b⟩))
  obtain rfl:=h3 h1.2
  obtain rfl:=h4 (by omega)
  rfl
theorem okN_two {n : Nd} (h : okN n = 0) (ha : ar n.op = 2) : n = ⟨n.op,n.x,n.y,0,0,0⟩:=by
 unfold okN at h
 by_cases hh : badN n
 ·simp [hh] at h
 ·have h1 : n.op ≠ 1 ∧ n.op ≠ 2:=ar_12 (by omega)
  unfold badN at hh
  obtain ⟨op,x,y,m,k,v⟩:=n
  simp only [not_or,not_and,Decidable.not_not] at hh ha h1
  obtain ⟨-,h2,h3,-,-⟩:=hh
  obtain ⟨rfl,rfl⟩ : k = 0 ∧ v = 0:=Decidable.byContradiction (fun hc => h2 h1.1 (fun a b => hc ⟨a,b⟩))
  obtain rfl:=h3 h1.2
  rfl
theorem okN_zero {n : Nd} (h : okN n = 0) (ha : ar n.op = 0) : (n = ⟨1,0,0,0,n.k,n.v⟩ ∧ vokB n.k n.v = true) ∨ (n = ⟨2,0,0,n.n,0,0⟩ ∧ 0 ≤ n.n ∧ n.n < 4):=by
 unfold okN at h
 by_cases hh : badN n
 ·simp [hh] at h
 ·rw [if_neg hh] at h
  by_cases h9 : n.n < 0 ∨ 4 ≤ n.n
  ·simp [h9] at h
  ·rw [if_neg h9] at h
   have hv : vokB n.k n.v = true:=by
    by_cases hv : vokB n.k n.v = true
    ·exact hv
    ·simp [hv] at h
   unfold badN at hh
   obtain ⟨op,x,y,m,k,v⟩:=n
   simp only [not_or,not_and,Decidable.not_not] at hh ha h9 hv ⊢
   obtain ⟨-,h2,h3,h4,h5⟩:=hh
   obtain rfl:=h4 (by omega)
   obtain rfl:=h5 (by omega)
   have hop : op = 1 ∨ op = 2:=by
    unfold ar at ha
    by_cases h8 : op = 1 ∨ op = 2
    ·exact h8
    ·rw [if_neg h8] at ha
     split at ha
     ·omega
     ·split at ha <;> omega
   rcases hop with rfl | rfl
   ·obtain rfl:=h3 (by decide)
    exact .inl ⟨rfl,hv⟩
   ·obtain ⟨rfl,rfl⟩ : k = 0 ∧ v = 0:=Decidable.byContradiction (fun hc => h2 (by decide) (fun a b => hc ⟨a,b⟩))
    exact .inr ⟨rfl,by omega,by omega⟩
theorem good_flat : ∀ (N : Nat) (l : List Nd) (bs : List Nat),l.length ≤ N → Good l bs → 0 < l.length → bs.getD (l.length - 1) 0 = 0 → ∃ t,Wf t ∧ flat t = l:=by
 intro N
 induction N with
 | zero => intro l bs h1 _ h2;omega
 | succ N ih =>
  intro l bs hN hg h0 hb
  have hi : l.length - 1 < l.length:=by omega
  obtain ⟨l',n,rfl⟩ : ∃ l' n,l = l' ++ [n]:=⟨l.dropLast,l.getLast (by intro e;simp [e] at h0),(List.dropLast_concat_getLast _).symm⟩
  have hlen : (l' ++ [n]).length = l'.length + 1:=by simp
  have hidx : (l' ++ [n]).length - 1 = l'.length:=by simp
  rw [hidx] at hb
  have hn : (l' ++ [n])[l'.length]? = some n:=by simp
  obtain ⟨ok,a0,ha0,ha1,ha2⟩:=good_at hg hn
  have hbl : bs.length = l'.length + 1:=by rw [hg.1,hlen]
  have hle:=ar_le n.op
  rcases (by omega : ar n.op = 0 ∨ ar n.op = 1 ∨ ar n.op = 2) with h | h | h
  ·have e:=ha0 h
   have e0 : l'.length = 0:=by rw [hb] at e;omega
   have : l' = []:=List.eq_nil_of_length_eq_zero e0
   subst this
   rcases okN_zero ok h with ⟨e1,e2⟩ | ⟨e1,e2,e3⟩
   ·exact ⟨.cst n.k n.v,e2,by rw [flat,← e1];rfl⟩
   ·exact ⟨.fld n.n,⟨e2,e3⟩,by rw [flat,← e1];rfl⟩
  ·obtain ⟨p0,hx,hbb⟩:=ha1 h
   have gp : Good l' (bs.take l'.length):=good_pre hg
   obtain ⟨t,wt,ft⟩:=ih l' _ (by rw [hlen] at hN;omega) gp p0 (by rw [getD_take _ _ _ (by omega),← hbb,hb])
   refine ⟨.one n.op t,⟨h,wt⟩,?_⟩
   rw [flat,join1,ft,okN_one ok h,hx]
  ·obtain ⟨p0,hy,hc,hx,hbb⟩:=ha2 h
   obtain ⟨c,hcc⟩ : ∃ c,bs.getD (l'.length - 1) 0 = c:=⟨_,rfl⟩
   rw [hcc] at hc hx hbb
   have gp : Good l' (bs.take l'.length):=good_pre hg
   have hc2 : c ≤ l'.length - 1:=by
    have:=good_le hg (l'.length - 1) (by rw [hlen];omega)
    rw [hcc] at this
    exact this
   have gl : Good (l'.take c) ((bs.take l'.length).take (l'.take c).length):=good_pre (m:=l'.drop c) (by rw [List.take_append_drop];exact gp)
   have lc : (l'.take c).length = c:=by simp;omega
   obtain ⟨t1,w1,f1⟩:=ih (l'.take c) _ (by rw [lc];rw [hlen] at hN;omega) gl (by rw [lc];exact hc) (by
    rw [lc,getD_take _ _ _ (by omega),getD_take _ _ _ (by omega)]
    rw [hb,getD_take _ _ _ (by omega)] at hbb
    exact hbb.symm)
   have e1 : (bs.take l'.length).getD (l'.length - 1) 0 = c:=by rw [getD_take _ _ _ (by omega)];exact hcc
   have gm:=good_cut gp (l'.length - 1) (by omega)
   rw [e1] at gm
   have et : l'.take (l'.length - 1 + 1) = l':=by rw [show l'.length - 1 + 1 = l'.length from by omega,List.take_length]
   rw [et] at gm
   have lm : ((l'.drop c).map (mv (-(c : Int)))).length = l'.length - c:=by simp
   obtain ⟨t2,w2,f2⟩:=ih _ _ (by rw [lm];rw [hlen] at hN;omega) gm (by rw [lm];omega) (by
    rw [lm,List.getD_eq_getElem?_getD,List.getElem?_map,List.getElem?_drop]
    rw [show c + (l'.length - c - 1) = l'.length - 1 from by omega]
    have : ((bs.take l'.length).take (l'.length - 1 + 1))[l'.length - 1]? = some c:=by
     rw [List.getElem?_take,if_pos (by omega),List.getElem?_take,if_pos (by omega)]
     rw [List.getD_eq_getElem?_getD] at hcc
     rw [List.getElem?_eq_getElem (by omega)] at hcc ⊢
     simpa using hcc
    rw [this]
    simp)
   refine ⟨.two n.op t1 t2,⟨h,w1,w2⟩,?_⟩
   rw [flat,joinL,f1,f2,map_mv_mv,lc]
   rw [show -(c : Int) + (c : Int) = 0 from by omega,map_mv_zero,List.take_append_drop]
   congr 1
   rw [okN_two ok h,hx,hy]
   simp
   omega
theorem chk_flat {l : List Nd} (h : chkE l = 0) : ∃ t,Wf t ∧ flat t = l ∧ l.length ≤ 40:=by
 obtain ⟨bs,g,h1,h2,h3⟩:=good_of_chk h
 obtain ⟨t,a,b⟩:=good_flat l.length l bs (Nat.le_refl _) g h2 (by rw [List.getD_eq_getElem?_getD,h3];rfl)
 exact ⟨t,a,b,h1⟩
theorem flat_chk {t : Ex} (h : Wf t) (hl : (flat t).length ≤ 40) : chkE (flat t) = 0:=by
 obtain ⟨bs,g,e⟩:=flat_good t h
 exact chk_of_good g hl (flat_pos t) e
def evT (O : Int → V2 → V2 → V2) (ev : List V2) : Ex → V2
 | .cst k v => (k,v)
 | .fld n => nth ev n
 | .one op a => O op (evT O ev a) (0,0)
 | .two op a b => O op (evT O ev a) (evT O ev b)
theorem ev_flat (O : Int → V2 → V2 → V2) (ev : List V2) : ∀ t : Ex,Wf t → evL O ev (flat t) = evT O ev t
 | .cst k v,_ => by simp [evL,flat,evF,evN,nth,evT]
 | .fld n,_ => by simp [evL,flat,evF,evN,evT];simp [nth]
 | .one op a,h => by
  obtain ⟨h1,h2⟩ : ar op = 1 ∧ Wf a:=h
  rw [flat,ev_join1 O ev op _ h1,ev_flat O ev a h2,evT]
 | .two op a b,h => by
  obtain ⟨h1,h2,h3⟩ : ar op = 2 ∧ Wf a ∧ Wf b:=h
  obtain ⟨bb,gb,-⟩:=flat_good b h3
  rw [flat,ev_join O ev op _ _ bb gb (flat_pos a) (flat_pos b) h1,ev_flat O ev a h2,ev_flat O ev b h3,evT]
def kindO (op : Int) : Int:=if op = 4 ∨ op = 5 ∨ op = 9 ∨ op = 10 ∨ op = 11 ∨ op = 12 then 2 else 1
def tyT : Ex → Option Int
 | .cst k v => some k
 | .fld n => some 1
 | .one op a => match tyT a with
  | some k => if goes op k then some (kindO op) else none
  | none => none
 | .two op a b => match tyT a,tyT b with
  | some k,some m => if goes op k && goes op m then some (kindO op) else none
  | _,_ => none
def tyP : Option Int → V2
 | some k => (k,0)
 | none => (0,3)
theorem tyF_app : ∀ (l m : List Nd) (ks : List Int),tyF (l ++ m) ks = (tyF l ks).bind (tyF m)
 | [],m,ks => rfl
 | n :: l,m,ks => by
  show (if fitN n ks then tyF (l ++ m) (ks ++ [kindN n]) else none) = _
  by_cases h : fitN n ks = true
  ·rw [if_pos h,tyF_app l m]
   simp [tyF,h]
  ·rw [if_neg h]
   simp [tyF,h]
theorem fitP_mv (op : Int) (P ks : List Int) (p : Int) (h0 : 0 ≤ p) (h1 : p < ks.length) : fitP op (P ++ ks) (p + P.length) = fitP op ks p:=by
 unfold fitP
 rw [if_neg (by simp;omega),if_neg (by omega)]
 congr 1
 rw [show (p + P.length).toNat = P.length + p.toNat from by omega,List.getD_eq_getElem?_getD,List.getD_eq_getElem?_getD,List.getElem?_append_right (by omega)]
 congr 2
 omega
theorem kindN_mv (c : Int) (n : Nd) : kindN (mv c n) = kindN n:=by
 unfold mv kindN
 repeat' split
 all_goals first | rfl | simp_all
theorem fitN_mv (n : Nd) (P ks : List Int) (h1 : 1 ≤ ar n.op → 0 ≤ n.x ∧ n.x < ks.length) (h2 : ar n.op = 2 → 0 ≤ n.y ∧ n.y < ks.length) : fitN (mv P.length n) (P ++ ks) = fitN n ks:=by
 unfold fitN
 rw [mv_op]
 by_cases a1 : ar n.op = 1
 ·have e : (mv (P.length : Int) n).x = n.x + P.length:=by unfold mv;rw [if_pos a1]
  rw [if_pos a1,if_pos a1,e,fitP_mv _ _ _ _ (h1 (by omega)).1 (h1 (by omega)).2]
 ·by_cases a2 : ar n.op = 2
  ·have ex : (mv (P.length : Int) n).x = n.x + P.length:=by unfold mv;rw [if_neg a1,if_pos a2]
   have ey : (mv (P.length : Int) n).y = n.y + P.length:=by unfold mv;rw [if_neg a1,if_pos a2]
   rw [if_neg a1,if_pos a2,if_neg a1,if_pos a2,ex,ey,fitP_mv _ _ _ _ (h1 (by omega)).1 (h1 (by omega)).2,fitP_mv _ _ _ _ (h2 a2).1 (h2 a2).2]
  ·rw [if_neg a1,if_neg a2,if_neg a1,if_neg a2]
theorem tyF_mv (P : List Int) : ∀ (m pre : List Nd) (bs : List Nat) (ks : List Int),Good (pre ++ m) bs → ks.length = pre.length → tyF (m.map (mv P.length)) (P ++ ks) = (tyF m ks).map (P ++ ·)
 | [],pre,bs,ks,hg,hk => rfl
 | n :: m,pre,bs,ks,hg,hk => by
  have hn : (pre ++ n :: m)[pre.length]? = some n:=by simp
  obtain ⟨q1,q2⟩:=good_part hg hn
  have hf : fitN (mv P.length n) (P ++ ks) = fitN n ks:=fitN_mv n P ks (fun a => by
    obtain ⟨a1,a2,-⟩:=q1 a
    omega) (fun a => by
    obtain ⟨a1,a2,-⟩:=q2 a
    omega)
  rw [List.map_cons]
  unfold tyF
  rw [hf]
  by_cases h : fitN n ks = true
  ·rw [if_pos h,if_pos h,kindN_mv,List.append_assoc]
   exact tyF_mv P m (pre ++ [n]) bs (ks ++ [kindN n]) (by rw [List.append_assoc];exact hg) (by simp [hk])
  ·rw [if_neg h,if_neg h]
   rfl
theorem fitP_last (op : Int) (P ks : List Int) (hk : 0 < ks.length) : fitP op (P ++ ks) ((P.length : Int) + ks.length - 1) = goes op (ks.getD (ks.length - 1) 0):=by
 unfold fitP
 rw [if_neg (by simp;omega)]
 congr 1
 rw [show ((P.length : Int) + ks.length - 1).toNat = P.length + (ks.length - 1) from by omega,List.getD_eq_getElem?_getD,List.getD_eq_getElem?_getD,List.getElem?_append_right (by omega)]
 congr 2
 omega
theorem fitP_left (op : Int) (P ks : List Int) (hk : 0 < P.length) : fitP op (P ++ ks) ((P.length : Int) - 1) = goes op (P.getD (P.length - 1) 0):=by
 unfold fitP
 rw [if_neg (by simp;omega)]
 congr 1
 rw [show ((P.length : Int) - 1).toNat = P.length - 1 from by omega,List.getD_eq_getElem?_getD,List.getD_eq_getElem?_getD,List.getElem?_append_left (by omega)]
theorem tyF_flat : ∀ t : Ex,Wf t → match tyT t with
  | some k => ∃ ks,tyF (flat t) [] = some ks ∧ ks.length = (flat t).length ∧ ks.getD (ks.length - 1) 0 = k
  | none => tyF (flat t) [] = none
 | .cst k v,_ => ⟨[k],by simp [flat,tyF,fitN,ar,kindN],rfl,rfl⟩
 | .fld n,_ => ⟨[1],by simp [flat,tyF,fitN,ar,kindN],rfl,rfl⟩
 | .one op a,h => by
  obtain ⟨h1,h2⟩ : ar op = 1 ∧ Wf a:=h
  have ih:=tyF_flat a h2
  obtain ⟨o1,o2⟩:=ar_12 (by omega : 1 ≤ ar op)
  have hk : kindN ⟨op,((flat a).length : Int) - 1,0,0,0,0⟩ = kindO op:=by unfold kindN kindO;simp [o1]
  rw [flat,join1,tyF_app]
  unfold tyT
  rcases ht : tyT a with _ | k
  ·rw [ht] at ih
   simp only at ih ⊢
   rw [ih]
   rfl
  ·rw [ht] at ih
   simp only at ih ⊢
   obtain ⟨ks,e1,e2,e3⟩:=ih
   have pos : 0 < ks.length:=by rw [e2];exact flat_pos a
   rw [e1]
   have hfit : fitN ⟨op,((flat a).length : Int) - 1,0,0,0,0⟩ ks = goes op k:=by
    unfold fitN
    rw [if_pos h1]
    have:=fitP_left op ks [] pos
    rw [List.append_nil,e2] at this
    rw [this,← e3,e2]
   by_cases hg : goes op k = true
   ·rw [if_pos hg]
    refine ⟨ks ++ [kindO op],?_,by simp [e2],by simp⟩
    show (if fitN _ ks then tyF [] (ks ++ [kindN _]) else none) = _
    rw [hfit,if_pos hg,hk]
    rfl
   ·rw [if_neg hg]
    show (if fitN _ ks then tyF [] (ks ++ [kindN _]) else none) = none
    rw [hfit,if_neg hg]
 | .two op a b,h => by
  obtain ⟨h1,h2,h3⟩ : ar op = 2 ∧ Wf a ∧ Wf b:=h
  have iha:=tyF_flat a h2
  have ihb:=tyF_flat b h3
  obtain ⟨o1,o2⟩:=ar_12 (by omega : 1 ≤ ar op)
  obtain ⟨bb,gb,-⟩:=flat_good b h3
  have hk : kindN ⟨op,((flat a).length : Int) - 1,((flat a).length : Int) + (flat b).length - 1,0,0,0⟩ = kindO op:=by unfold kindN kindO;simp [o1]
  rw [flat,joinL,tyF_app,tyF_app]
  unfold tyT
  rcases hta : tyT a with _ | k
  ·rw [hta] at iha
   simp only at iha ⊢
   rw [iha]
   rfl
  ·rw [hta] at iha
   simp only at iha
   obtain ⟨ks,e1,e2,e3⟩:=iha
   have pos : 0 < ks.length:=by rw [e2];exact flat_pos a
   rw [e1]
   have hmv : tyF ((flat b).map (mv (flat a).length)) ks = (tyF (flat b) []).map (ks ++ ·):=by
    have:=tyF_mv ks (flat b) [] bb [] (by simpa using gb) rfl
    rw [List.append_nil,e2] at this
    exact this
   rcases htb : tyT b with _ | m
   ·rw [htb] at ihb
    simp only at ihb ⊢
    show ((tyF ((flat b).map (mv (flat a).length)) ks).bind _) = none
    rw [hmv,ihb]
    rfl
   ·rw [htb] at ihb
    simp only at ihb ⊢
    obtain ⟨js,f1,f2,f3⟩:=ihb
    have posb : 0 < js.length:=by rw [f2];exact flat_pos b
    have hx : fitP op (ks ++ js) (((flat a).length : Int) - 1) = goes op k:=by
     have:=fitP_left op ks js pos
     rw [e2] at this
     rw [this,← e3,e2]
    have hy : fitP op (ks ++ js) (((flat a).length : Int) + (flat b).length - 1) = goes op m:=by
     have:=fitP_last op ks js posb
     rw [e2,f2] at this
     rw [this,← f3,f2]
    have hfit : fitN ⟨op,((flat a).length : Int) - 1,((flat a).length : Int) + (flat b).length - 1,0,0,0⟩ (ks ++ js) = (goes op k && goes op m):=by
     unfold fitN
     simp only
     rw [if_neg (by omega),if_pos h1,hx,hy]
     cases goes op k <;> cases goes op m <;> rfl
    have hstep : ((some ks).bind (tyF ((flat b).map (mv (flat a).length)))).bind (tyF [⟨op,((flat a).length : Int) - 1,((flat a).length : Int) + (flat b).length - 1,0,0,0⟩]) = if (goes op k && goes op m) = true then some (ks ++ js ++ [kindO op]) else none:=by
     show ((tyF ((flat b).map (mv (flat a).length)) ks).bind _) = _
     rw [hmv,f1]
     show (if fitN _ (ks ++ js) then tyF [] (ks ++ js ++ [kindN _]) else none) = _
     rw [hfit,hk]
     rfl
    rw [hstep]
    by_cases hg : (goes op k && goes op m) = true
    ·rw [if_pos hg,if_pos hg]
     exact ⟨ks ++ js ++ [kindO op],rfl,by simp [e2,f2],by simp⟩
    ·rw [if_neg hg,if_neg hg]
theorem ty_flat (t : Ex) (h : Wf t) : tyE (flat t) = tyP (tyT t):=by
 have:=tyF_flat t h
 have pos:=flat_pos t
 unfold tyE
 rw [if_neg (by omega)]
 rcases ht : tyT t with _ | k
 ·rw [ht] at this
  simp only at this
  rw [this]
  rfl
 ·rw [ht] at this
  simp only at this
  obtain ⟨ks,e1,e2,e3⟩:=this
  rw [e1]
  simp only
  rw [← e2,e3]
  rfl
def isC : Ex → Bool
 | .cst _ _ => true
 | _ => false
def cval : Ex → V2
 | .cst k v => (k,v)
 | _ => (0,0)
def ownK (op : Int) : Int:=if op = 4 ∨ op = 9 ∨ op = 10 then 2 else 1
def setl (op : Int) (v : V2) : Bool:=if op = 9 then (v.1 == 2 && v.2 == 0) else if op = 10 then (v.1 == 2 && v.2 == 1) else !(v.1 == 1)
def setd (op : Int) (v : V2) : V2:=if op = 9 ∨ op = 10 then v else (0,0)
def idlA (op : Int) (v : V2) : Bool:=if op = 9 then (v.1 == 2 && v.2 == 1) else if op = 10 then (v.1 == 2 && v.2 == 0) else if op = 6 then (v.1 == 1 && v.2 == 0) else if op = 8 then (v.1 == 1 && v.2 == 1) else false
def idlB (op : Int) (v : V2) : Bool:=(op == 7 && (v.1 == 1 && v.2 == 0)) || idlA op v
def isO (t : Ex) (k : Int) : Bool:=decide (tyT t = some k)
def cstV (v : V2) : Ex:=.cst v.1 v.2
def fold1 (op : Int) (x : Ex) : Ex :=
 if isC x then cstV (opV op (cval x) (0,0)) else match x with
 | .one o inner => if o = op ∧ op ≠ 5 ∧ isO inner (ownK op) = true then inner else .one op (.one o inner)
 | x => .one op x
def fold2 (op : Int) (x y : Ex) : Ex :=
 if isC x && isC y then cstV (opV op (cval x) (cval y))
 else if isC x && setl op (cval x) then cstV (setd op (cval x))
 else if isC y && setl op (cval y) then cstV (setd op (cval y))
 else if isC x && (idlA op (cval x) && isO y (ownK op)) then y
 else if isC y && (idlB op (cval y) && isO x (ownK op)) then x
 else .two op x y
def foldT : Ex → Ex
 | .cst k v => .cst k v
 | .fld n => .fld n
 | .one op a => fold1 op (foldT a)
 | .two op a b => fold2 op (foldT a) (foldT b)
theorem ar1_cases {op : Int} (h : ar op = 1) : op = 3 ∨ op = 4 ∨ op = 5:=by
 unfold ar at h
 split at h
 ·omega
 ·split at h
  ·omega
  ·split at h <;> omega
theorem ar2_cases {op : Int} (h : ar op = 2) : op = 6 ∨ op = 7 ∨ op = 8 ∨ op = 9 ∨ op = 10 ∨ op = 11 ∨ op = 12:=by
 unfold ar at h
 split at h
 ·omega
 ·split at h
  ·omega
  ·split at h <;> omega
theorem numV_kind (n : Int) : (numV n).1 = 1 ∨ (numV n).1 = 0:=by
 unfold numV numK
 simp only
 split
 ·exact .inl rfl
 ·exact .inr rfl
theorem op_kind {op : Int} (x y : V2) (h : 1 ≤ ar op) : (opV op x y).1 = kindO op ∨ (opV op x y).1 = 0:=by
 have h2:=ar_le op
 rcases (by omega : ar op = 1 ∨ ar op = 2) with h | h
 ·rcases ar1_cases h with rfl | rfl | rfl
  ·show (negV x.1 x.2).1 = 1 ∨ _
   unfold negV opV
   simp only [if_true]
   unfold negV
   split
   ·exact numV_kind _
   ·exact .inr rfl
  ·show (notV x.1 x.2).1 = 2 ∨ (notV x.1 x.2).1 = 0
   unfold notV
   split
   ·exact .inl rfl
   ·exact .inr rfl
  ·exact .inl rfl
 ·rcases ar2_cases h with rfl | rfl | rfl | rfl | rfl | rfl | rfl
  ·show (doV 6 x.1 x.2 y.1 y.2).1 = 1 ∨ (doV 6 x.1 x.2 y.1 y.2).1 = 0
   unfold doV
   simp only [show ¬ (6 : Int) = 9 from by decide,show ¬ (6 : Int) = 10 from by decide,if_false,if_true]
   split
   ·exact numV_kind _
   ·exact .inr rfl
  ·show (doV 7 x.1 x.2 y.1 y.2).1 = 1 ∨ (doV 7 x.1 x.2 y.1 y.2).1 = 0
   unfold doV
   simp only [show ¬ (7 : Int) = 9 from by decide,show ¬ (7 : Int) = 10 from by decide,show ¬ (7 : Int) = 6 from by decide,if_false,if_true]
   split
   ·exact numV_kind _
   ·exact .inr rfl
  ·show (doV 8 x.1 x.2 y.1 y.2).1 = 1 ∨ (doV 8 x.1 x.2 y.1 y.2).1 = 0
   unfold doV
   simp only [show ¬ (8 : Int) = 9 from by decide,show ¬ (8 : Int) = 10 from by decide,show ¬ (8 : Int) = 6 from by decide,show ¬ (8 : Int) = 7 from by decide,if_false,if_true]
   split
   ·exact numV_kind _
   ·exact .inr rfl
  ·show andK x.1 x.2 y.1 y.2 = 2 ∨ andK x.1 x.2 y.1 y.2 = 0
   unfold andK
   repeat' split
   all_goals simp
  ·show orK x.1 x.2 y.1 y.2 = 2 ∨ orK x.1 x.2 y.1 y.2 = 0
   unfold orK
   repeat' split
   all_goals simp
  ·show (doV 11 x.1 x.2 y.1 y.2).1 = 2 ∨ (doV 11 x.1 x.2 y.1 y.2).1 = 0
   unfold doV
   simp only [show ¬ (11 : Int) = 9 from by decide,show ¬ (11 : Int) = 10 from by decide,show ¬ (11 : Int) = 6 from by decide,show ¬ (11 : Int) = 7 from by decide,show ¬ (11 : Int) = 8 from by decide,if_false,if_true]
   split
   ·exact .inl rfl
   ·exact .inr rfl
  ·show (doV 12 x.1 x.2 y.1 y.2).1 = 2 ∨ (doV 12 x.1 x.2 y.1 y.2).1 = 0
   unfold doV
   simp only [show ¬ (12 : Int) = 9 from by decide,show ¬ (12 : Int) = 10 from by decide,show ¬ (12 : Int) = 6 from by decide,show ¬ (12 : Int) = 7 from by decide,show ¬ (12 : Int) = 8 from by decide,show ¬ (12 : Int) = 11 from by decide,if_false,if_true]
   split
   ·exact .inl rfl
   ·exact .inr rfl
section
variable {ev : List V2} (hev : ∀ p ∈ ev,okV p) (hfk : ∀ n : Int,(nth ev n).1 = 1 ∨ (nth ev n).1 = 0)
include hev in
theorem evT_ok : ∀ t : Ex,Wf t → okV (evT opV ev t)
 | .cst k v,h => h
 | .fld n,h => ok_nth hev n
 | .one op a,h => ok_op _ _ _
 | .two op a b,h => ok_op _ _ _
include hfk in
theorem ty_sound : ∀ (t : Ex) (k : Int),Wf t → tyT t = some k → (evT opV ev t).1 = k ∨ (evT opV ev t).1 = 0
 | .cst c v,k,h,ht => by
  simp only [tyT,Option.some.injEq] at ht
  exact .inl ht
 | .fld n,k,h,ht => by
  simp only [tyT,Option.some.injEq] at ht
  rw [← ht]
  exact hfk n
 | .one op a,k,h,ht => by
  obtain ⟨h1,h2⟩ : ar op = 1 ∧ Wf a:=h
  unfold tyT at ht
  split at ht
  ·split at ht
   ·simp only [Option.some.injEq] at ht
    rw [← ht]
    exact op_kind _ _ (by omega)
   ·cases ht
  ·cases ht
 | .two op a b,k,h,ht => by
  obtain ⟨h1,h2,h3⟩ : ar op = 2 ∧ Wf a ∧ Wf b:=h
  unfold tyT at ht
  split at ht
  ·split at ht
   ·simp only [Option.some.injEq] at ht
    rw [← ht]
    exact op_kind _ _ (by omega)
   ·cases ht
  ·cases ht
end
theorem okV_null {x : V2} (h : okV x) (h0 : x.1 = 0) : x = (0,0):=by
 obtain ⟨k,n⟩:=x
 have:=of_decide_eq_true h
 simp only at h0 this
 subst h0
 have : n = 0:=by omega
 rw [this]
theorem okV_num {x : V2} (h : okV x) (h1 : x.1 = 1) : ∃ n,x = (1,n) ∧ -1000000000 ≤ n ∧ n ≤ 1000000000:=by
 obtain ⟨k,n⟩:=x
 have:=of_decide_eq_true h
 simp only at h1 this
 subst h1
 exact ⟨n,rfl,by omega,by omega⟩
theorem okV_tru {x : V2} (h : okV x) (h1 : x.1 = 2) : x = (2,0) ∨ x = (2,1):=by
 obtain ⟨k,n⟩:=x
 have:=of_decide_eq_true h
 simp only at h1 this
 subst h1
 rcases (by omega : n = 0 ∨ n = 1) with rfl | rfl
 ·exact .inl rfl
 ·exact .inr rfl
theorem numV_in {n : Int} (h : -1000000000 ≤ n ∧ n ≤ 1000000000) : numV n = (1,n):=by
 unfold numV numK numN
 rw [if_pos h,if_pos h]
theorem twice {op : Int} (h : op = 3 ∨ op = 4) {x : V2} (hx : okV x) (hk : x.1 = ownK op ∨ x.1 = 0) : opV op (opV op x (0,0)) (0,0) = x:=by
 rcases hk with hk | hk
 ·rcases h with rfl | rfl
  ·obtain ⟨n,rfl,h1,h2⟩:=okV_num hx hk
   show negV (negV 1 n).1 (negV 1 n).2 = _
   have e : negV 1 n = (1,-n):=by unfold negV;rw [if_pos rfl,numV_in (by omega)]
   rw [e]
   show numV (-(-n)) = _
   rw [numV_in (by omega)]
   simp
  ·rcases okV_tru hx hk with rfl | rfl <;> rfl
 ·rw [okV_null hx hk]
  rcases h with rfl | rfl <;> rfl
theorem settled_l {op : Int} (h : ar op = 2) {x y : V2} (hx : okV x) (hs : setl op x = true) : opV op x y = setd op x:=by
 obtain ⟨k,n⟩:=x
 rcases ar2_cases h with rfl | rfl | rfl | rfl | rfl | rfl | rfl
 case inr.inr.inr.inl =>
  simp [setl] at hs
  obtain ⟨rfl,rfl⟩:=hs
  show (andK 2 0 y.1 y.2,andN 2 0 y.1 y.2) = _
  simp [andK,andN,isF,setd]
 case inr.inr.inr.inr.inl =>
  simp [setl] at hs
  obtain ⟨rfl,rfl⟩:=hs
  show (orK 2 1 y.1 y.2,orN 2 1 y.1 y.2) = _
  simp [orK,orN,isT,setd]
 all_goals
  have hk : ¬ (k = 1 ∧ y.1 = 1):=by simp [setl] at hs;exact fun e => hs e.1
  simp [opV,setd,doV,hk]
theorem settled_r {op : Int} (h : ar op = 2) {x y : V2} (hy : okV y) (hs : setl op y = true) : opV op x y = setd op y:=by
 obtain ⟨k,n⟩:=y
 rcases ar2_cases h with rfl | rfl | rfl | rfl | rfl | rfl | rfl
 case inr.inr.inr.inl =>
  simp [setl] at hs
  obtain ⟨rfl,rfl⟩:=hs
  show (andK x.1 x.2 2 0,andN x.1 x.2 2 0) = _
  simp [andK,andN,isF,setd]
 case inr.inr.inr.inr.inl =>
  simp [setl] at hs
  obtain ⟨rfl,rfl⟩:=hs
  show (orK x.1 x.2 2 1,orN x.1 x.2 2 1) = _
  simp [orK,orN,isT,setd]
 all_goals
  have hk : ¬ (x.1 = 1 ∧ k = 1):=by simp [setl] at hs;exact fun e => hs e.2
  simp [opV,setd,doV,hk]
theorem idle_l {op : Int} (h : ar op = 2) {x y : V2} (hy : okV y) (hs : idlA op x = true) (hk : y.1 = ownK op ∨ y.1 = 0) : opV op x y = y:=by
 obtain ⟨a,b⟩:=x
 rcases ar2_cases h with rfl | rfl | rfl | rfl | rfl | rfl | rfl
 ·simp [idlA] at hs
  obtain ⟨rfl,rfl⟩:=hs
  rcases hk with hk | hk
  ·obtain ⟨n,rfl,h1,h2⟩:=okV_num hy hk
   show numV (0 + n) = _
   rw [Int.zero_add,numV_in (by omega)]
  ·rw [okV_null hy hk];rfl
 ·simp [idlA] at hs
 ·simp [idlA] at hs
  obtain ⟨rfl,rfl⟩:=hs
  rcases hk with hk | hk
  ·obtain ⟨n,rfl,h1,h2⟩:=okV_num hy hk
   show numV (1 * n) = _
   rw [Int.one_mul,numV_in (by omega)]
  ·rw [okV_null hy hk];rfl
 ·simp [idlA] at hs
  obtain ⟨rfl,rfl⟩:=hs
  rcases hk with hk | hk
  ·rcases okV_tru hy hk with rfl | rfl <;> rfl
  ·rw [okV_null hy hk];rfl
 ·simp [idlA] at hs
  obtain ⟨rfl,rfl⟩:=hs
  rcases hk with hk | hk
  ·rcases okV_tru hy hk with rfl | rfl <;> rfl
  ·rw [okV_null hy hk];rfl
 ·simp [idlA] at hs
 ·simp [idlA] at hs
theorem idle_r {op : Int} (h : ar op = 2) {x y : V2} (hx : okV x) (hs : idlB op y = true) (hk : x.1 = ownK op ∨ x.1 = 0) : opV op x y = x:=by
 obtain ⟨a,b⟩:=y
 rcases ar2_cases h with rfl | rfl | rfl | rfl | rfl | rfl | rfl
 ·simp [idlB,idlA] at hs
  obtain ⟨rfl,rfl⟩:=hs
  rcases hk with hk | hk
  ·obtain ⟨n,rfl,h1,h2⟩:=okV_num hx hk
   show numV (n + 0) = _
   rw [Int.add_zero,numV_in (by omega)]
  ·rw [okV_null hx hk];rfl
 ·simp [idlB,idlA] at hs
  obtain ⟨rfl,rfl⟩:=hs
  rcases hk with hk | hk
  ·obtain ⟨n,rfl,h1,h2⟩:=okV_num hx hk
   show numV (n - 0) = _
   rw [Int.sub_zero,numV_in (by omega)]
  ·rw [okV_null hx hk];rfl
 ·simp [idlB,idlA] at hs
  obtain ⟨rfl,rfl⟩:=hs
  rcases hk with hk | hk
  ·obtain ⟨n,rfl,h1,h2⟩:=okV_num hx hk
   show numV (n * 1) = _
   rw [Int.mul_one,numV_in (by omega)]
  ·rw [okV_null hx hk];rfl
 ·simp [idlB,idlA] at hs
  obtain ⟨rfl,rfl⟩:=hs
  rcases hk with hk | hk
  ·rcases okV_tru hx hk with rfl | rfl <;> rfl
  ·rw [okV_null hx hk];rfl
 ·simp [idlB,idlA] at hs
  obtain ⟨rfl,rfl⟩:=hs
  rcases hk with hk | hk
  ·rcases okV_tru hx hk with rfl | rfl <;> rfl
  ·rw [okV_null hx hk];rfl
 ·simp [idlB,idlA] at hs
 ·simp [idlB,idlA] at hs
theorem cst_wf {x : Ex} (h : isC x = true) (hw : Wf x) : okV (cval x):=by
 cases x <;> simp [isC] at h
 exact hw
theorem cst_ev {x : Ex} (O : Int → V2 → V2 → V2) (ev : List V2) (h : isC x = true) : evT O ev x = cval x:=by
 cases x <;> simp [isC] at h
 rfl
theorem setd_ok {op : Int} {v : V2} (h : okV v) : okV (setd op v):=by
 unfold setd
 split
 ·exact h
 ·exact ok_zero
theorem fold1_wf {op : Int} {x : Ex} (h : ar op = 1) (hw : Wf x) : Wf (fold1 op x):=by
 unfold fold1
 split
 ·exact ok_op _ _ _
 ·split
  ·rename_i o inner _
   split
   ·exact hw.2
   ·exact ⟨h,hw⟩
  ·exact ⟨h,hw⟩
theorem fold2_wf {op : Int} {x y : Ex} (h : ar op = 2) (hx : Wf x) (hy : Wf y) : Wf (fold2 op x y):=by
 unfold fold2
 split
 ·exact ok_op _ _ _
 ·split
  ·rename_i hc
   simp only [Bool.and_eq_true] at hc
   exact setd_ok (cst_wf hc.1 hx)
  ·split
   ·rename_i hc
    simp only [Bool.and_eq_true] at hc
    exact setd_ok (cst_wf hc.1 hy)
   ·split
    ·exact hy
    ·split
     ·exact hx
     ·exact ⟨h,hx,hy⟩
theorem foldT_wf : ∀ t : Ex,Wf t → Wf (foldT t)
 | .cst k v,h => h
 | .fld n,h => h
 | .one op a,h => fold1_wf h.1 (foldT_wf a h.2)
 | .two op a b,h => fold2_wf h.1 (foldT_wf a h.2.1) (foldT_wf b h.2.2)
theorem fold1_len (op : Int) (x : Ex) : (flat (fold1 op x)).length ≤ (flat x).length + 1:=by
 unfold fold1
 split
 ·simp [flat,cstV]
 ·split
  ·split
   ·simp [flat,join1];omega
   ·simp [flat,join1]
  ·simp [flat,join1]
theorem fold2_len (op : Int) (x y : Ex) : (flat (fold2 op x y)).length ≤ (flat x).length + (flat y).length + 1:=by
 unfold fold2
 split
 ·simp [flat,cstV]
 ·split
  ·simp [flat,cstV]
  ·split
   ·simp [flat,cstV]
   ·split
    ·omega
    ·split
     ·omega
     ·simp [flat,joinL];omega
theorem foldT_len : ∀ t : Ex,(flat (foldT t)).length ≤ (flat t).length
 | .cst k v => Nat.le_refl _
 | .fld n => Nat.le_refl _
 | .one op a => by
  have h1:=fold1_len op (foldT a)
  have h2:=foldT_len a
  have h3 : (flat (.one op a)).length = (flat a).length + 1:=by simp [flat,join1]
  rw [h3]
  show (flat (fold1 op (foldT a))).length ≤ _
  omega
 | .two op a b => by
  have h1:=fold2_len op (foldT a) (foldT b)
  have h2:=foldT_len a
  have h4:=foldT_len b
  have h3 : (flat (.two op a b)).length = (flat a).length + (flat b).length + 1:=by simp [flat,joinL];omega
  rw [h3]
  show (flat (fold2 op (foldT a) (foldT b))).length ≤ _
  omega
section
variable {ev : List V2} (hev : ∀ p ∈ ev,okV p) (hfk : ∀ n : Int,(nth ev n).1 = 1 ∨ (nth ev n).1 = 0)
include hev hfk
theorem fold1_ev {op : Int} {x : Ex} (h : ar op = 1) (hw : Wf x) : evT opV ev (fold1 op x) = opV op (evT opV ev x) (0,0):=by
 unfold fold1
 split
 ·rename_i hc
  rw [cst_ev opV ev hc]
  rfl
 ·split
  ·rename_i o inner _
   split
   ·rename_i hc
    obtain ⟨rfl,h5,ht⟩:=hc
    have h34 : o = 3 ∨ o = 4:=by rcases ar1_cases h with h | h | h <;> omega
    show _ = opV o (opV o (evT opV ev inner) (0,0)) (0,0)
    exact (twice h34 (evT_ok hev inner hw.2) (ty_sound hfk inner _ hw.2 (of_decide_eq_true ht))).symm
   ·rfl
  ·rfl
theorem fold2_ev {op : Int} {x y : Ex} (h : ar op = 2) (hx : Wf x) (hy : Wf y) : evT opV ev (fold2 op x y) = opV op (evT opV ev x) (evT opV ev y):=by
 unfold fold2
 split
 ·rename_i hc
  simp only [Bool.and_eq_true] at hc
  rw [cst_ev opV ev hc.1,cst_ev opV ev hc.2]
  rfl
 ·split
  ·rename_i hc
   simp only [Bool.and_eq_true] at hc
   rw [cst_ev opV ev hc.1]
   exact (settled_l h (cst_wf hc.1 hx) hc.2).symm
  ·split
   ·rename_i hc
    simp only [Bool.and_eq_true] at hc
    rw [cst_ev opV ev hc.1]
    exact (settled_r h (cst_wf hc.1 hy) hc.2).symm
   ·split
    ·rename_i hc
     simp only [Bool.and_eq_true] at hc
     rw [cst_ev opV ev hc.1]
     exact (idle_l h (evT_ok hev y hy) hc.2.1 (ty_sound hfk y _ hy (of_decide_eq_true hc.2.2))).symm
    ·split
     ·rename_i hc
      simp only [Bool.and_eq_true] at hc
      rw [cst_ev opV ev hc.1]
      exact (idle_r h (evT_ok hev x hx) hc.2.1 (ty_sound hfk x _ hx (of_decide_eq_true hc.2.2))).symm
     ·rfl
theorem foldT_ev : ∀ t : Ex,Wf t → evT opV ev (foldT t) = evT opV ev t
 | .cst k v,h => rfl
 | .fld n,h => rfl
 | .one op a,h => by
  show evT opV ev (fold1 op (foldT a)) = _
  rw [fold1_ev hev hfk h.1 (foldT_wf a h.2),foldT_ev a h.2]
  rfl
 | .two op a b,h => by
  show evT opV ev (fold2 op (foldT a) (foldT b)) = _
  rw [fold2_ev hev hfk h.1 (foldT_wf a h.2.1) (foldT_wf b h.2.2),foldT_ev a h.2.1,foldT_ev b h.2.2]
  rfl
end
theorem goes_zero (op : Int) : goes op 0 = true:=by
 unfold goes
 repeat' split
 all_goals rfl
theorem setd_kind {op : Int} {v : V2} (h : ar op = 2) (hv : okV v) (hs : setl op v = true) : (setd op v).1 = kindO op ∨ (setd op v).1 = 0:=by
 obtain ⟨k,n⟩:=v
 rcases ar2_cases h with rfl | rfl | rfl | rfl | rfl | rfl | rfl
 case inr.inr.inr.inl => simp [setl] at hs;exact .inl hs.1
 case inr.inr.inr.inr.inl => simp [setl] at hs;exact .inl hs.1
 all_goals exact .inr rfl
theorem own_kind {op : Int} (h : op = 3 ∨ op = 4 ∨ op = 6 ∨ op = 7 ∨ op = 8 ∨ op = 9 ∨ op = 10) : ownK op = kindO op:=by
 rcases h with rfl | rfl | rfl | rfl | rfl | rfl | rfl <;> rfl
theorem idlA_op {op : Int} {v : V2} (h : idlA op v = true) : op = 6 ∨ op = 8 ∨ op = 9 ∨ op = 10:=by
 unfold idlA at h
 by_cases h1 : op = 9
 ·omega
 ·rw [if_neg h1] at h
  by_cases h2 : op = 10
  ·omega
  ·rw [if_neg h2] at h
   by_cases h3 : op = 6
   ·omega
   ·rw [if_neg h3] at h
    by_cases h4 : op = 8
    ·omega
    ·simp [h4] at h
theorem idlB_op {op : Int} {v : V2} (h : idlB op v = true) : op = 6 ∨ op = 7 ∨ op = 8 ∨ op = 9 ∨ op = 10:=by
 unfold idlB at h
 rw [Bool.or_eq_true] at h
 rcases h with h | h
 ·simp at h
  omega
 ·have:=idlA_op h
  omega
theorem fold1_ty {op : Int} {x : Ex} {k : Int} (h : ar op = 1) (hw : Wf x) (ht : tyT (.one op x) = some k) : tyT (fold1 op x) = some k ∨ tyT (fold1 op x) = some 0:=by
 have hk : k = kindO op:=by
  unfold tyT at ht
  split at ht
  ·split at ht
   ·simpa using ht.symm
   ·cases ht
  ·cases ht
 subst hk
 unfold fold1
 split
 ·rcases op_kind (cval x) (0,0) (by omega : 1 ≤ ar op) with e | e
  ·exact .inl (by show some _ = _;rw [e])
  ·exact .inr (by show some _ = _;rw [e])
 ·split
  ·rename_i o inner _
   split
   ·rename_i hc
    obtain ⟨rfl,h5,hi⟩:=hc
    have h34 : o = 3 ∨ o = 4:=by rcases ar1_cases h with h | h | h <;> omega
    rw [of_decide_eq_true hi]
    exact .inl (by rw [own_kind (by omega)])
   ·exact .inl ht
  ·exact .inl ht
theorem fold2_ty {op : Int} {x y : Ex} {k : Int} (h : ar op = 2) (hx : Wf x) (hy : Wf y) (ht : tyT (.two op x y) = some k) : tyT (fold2 op x y) = some k ∨ tyT (fold2 op x y) = some 0:=by
 have hk : k = kindO op:=by
  unfold tyT at ht
  split at ht
  ·split at ht
   ·simpa using ht.symm
   ·cases ht
  ·cases ht
 subst hk
 have cs : ∀ v : V2,(v.1 = kindO op ∨ v.1 = 0) → tyT (cstV v) = some (kindO op) ∨ tyT (cstV v) = some 0:=fun v hv => by
  rcases hv with e | e
  ·exact .inl (by show some _ = _;rw [e])
  ·exact .inr (by show some _ = _;rw [e])
 unfold fold2
 split
 ·exact cs _ (op_kind _ _ (by omega))
 ·split
  ·rename_i hc
   simp only [Bool.and_eq_true] at hc
   exact cs _ (setd_kind h (cst_wf hc.1 hx) hc.2)
  ·split
   ·rename_i hc
    simp only [Bool.and_eq_true] at hc
    exact cs _ (setd_kind h (cst_wf hc.1 hy) hc.2)
   ·split
    ·rename_i hc
     simp only [Bool.and_eq_true] at hc
     have:=idlA_op hc.2.1
     rw [of_decide_eq_true hc.2.2,own_kind (by omega)]
     exact .inl rfl
    ·split
     ·rename_i hc
      simp only [Bool.and_eq_true] at hc
      have:=idlB_op hc.2.1
      rw [of_decide_eq_true hc.2.2,own_kind (by omega)]
      exact .inl rfl
     ·exact .inl ht
theorem foldT_ty : ∀ (t : Ex) (k : Int),Wf t → tyT t = some k → tyT (foldT t) = some k ∨ tyT (foldT t) = some 0
 | .cst c v,k,h,ht => .inl ht
 | .fld n,k,h,ht => .inl ht
 | .one op a,k,h,ht => by
  obtain ⟨h1,h2⟩ : ar op = 1 ∧ Wf a:=h
  refine fold1_ty h1 (foldT_wf a h2) ?_
  unfold tyT at ht ⊢
  split at ht
  ·rename_i m hm
   split at ht
   ·rename_i hg
    rcases foldT_ty a m h2 hm with e | e
    ·rw [e];simp only;rw [if_pos hg];exact ht
    ·rw [e];simp only;rw [if_pos (goes_zero op)];exact ht
   ·cases ht
  ·cases ht
 | .two op a b,k,h,ht => by
  obtain ⟨h1,h2,h3⟩ : ar op = 2 ∧ Wf a ∧ Wf b:=h
  refine fold2_ty h1 (foldT_wf a h2) (foldT_wf b h3) ?_
  unfold tyT at ht ⊢
  split at ht
  ·rename_i m n hm hn
   split at ht
   ·rename_i hg
    rw [Bool.and_eq_true] at hg
    rcases foldT_ty a m h2 hm with e | e <;> rcases foldT_ty b n h3 hn with e2 | e2 <;> rw [e,e2] <;> simp only
    ·rw [if_pos (by rw [hg.1,hg.2];rfl)];exact ht
    ·rw [if_pos (by rw [hg.1,goes_zero];rfl)];exact ht
    ·rw [if_pos (by rw [hg.2,goes_zero];rfl)];exact ht
    ·rw [if_pos (by rw [goes_zero];rfl)];exact ht
   ·cases ht
  ·cases ht
end Go.Proofs.YtaomljdbndajgaaGreatDoor

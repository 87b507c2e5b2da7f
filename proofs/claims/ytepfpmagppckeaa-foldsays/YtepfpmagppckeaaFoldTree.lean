/- Expressions as trees: a list of nodes that may be is a tree, laid out; its value and its type go by the tree. Conditions: none. -/
import Derived.Test.YtepfpmagppckeaaExprPure3
namespace Go.Proofs.Ytepfpmagppckeaa
set_option linter.unusedVariables false
set_option linter.unusedSimpArgs false

inductive Ex where
  | cst (k v : Int)
  | fld (n : Int)
  | one (op : Int) (a : Ex)
  | two (op : Int) (a b : Ex)

def flat : Ex → List Nd
  | .cst k v => [⟨1, 0, 0, 0, k, v⟩]
  | .fld n => [⟨2, 0, 0, n, 0, 0⟩]
  | .one op a => join1 op (flat a)
  | .two op a b => joinL op (flat a) (flat b)
def Wf : Ex → Prop
  | .cst k v => vokB k v = true
  | .fld n => 0 ≤ n ∧ n < 4
  | .one op a => ar op = 1 ∧ Wf a
  | .two op a b => ar op = 2 ∧ Wf a ∧ Wf b

theorem flat_pos : ∀ t : Ex, 0 < (flat t).length
  | .cst k v => by simp [flat]
  | .fld n => by simp [flat]
  | .one op a => by simp [flat, join1]
  | .two op a b => by simp [flat, joinL]; omega

/-- a tree, laid out, may be -/
theorem flat_good : ∀ t : Ex, Wf t → ∃ bs, Good (flat t) bs ∧ bs[(flat t).length - 1]? = some 0
  | .cst k v, h => by
    have h' : vokB k v = true := h
    refine ⟨[0], good_snoc (l := []) (bs := []) (b := 0) good_nil ?_ ?_, rfl⟩
    · have hb : ¬ badN ⟨1, 0, 0, 0, k, v⟩ := by unfold badN; simp [ar]
      unfold okN
      rw [if_neg hb]
      simp [h']
    · simp [begN, ar]
  | .fld n, h => by
    have h' : 0 ≤ n ∧ n < 4 := h
    refine ⟨[0], good_snoc (l := []) (bs := []) (b := 0) good_nil ?_ ?_, rfl⟩
    · have hb : ¬ badN ⟨2, 0, 0, n, 0, 0⟩ := by unfold badN; simp [ar]
      unfold okN
      rw [if_neg hb, if_neg (by simp; omega)]
      simp [vokB]
    · simp [begN, ar]
  | .one op a, h => by
    obtain ⟨h1, h2⟩ : ar op = 1 ∧ Wf a := h
    obtain ⟨bs, hg, hb⟩ := flat_good a h2
    refine ⟨bs ++ [0], good_join1 hg (flat_pos a) hb h1, ?_⟩
    have : (flat (.one op a)).length - 1 = bs.length := by rw [hg.1]; simp [flat, join1]
    rw [this, List.getElem?_append_right (Nat.le_refl _)]
    simp
  | .two op a b, h => by
    obtain ⟨h1, h2, h3⟩ : ar op = 2 ∧ Wf a ∧ Wf b := h
    obtain ⟨ba, ga, ea⟩ := flat_good a h2
    obtain ⟨bb, gb, eb⟩ := flat_good b h3
    refine ⟨ba ++ bb.map (· + (flat a).length) ++ [0], good_joinL ga gb (flat_pos a) (flat_pos b) ea eb h1, ?_⟩
    have : (flat (.two op a b)).length - 1 = (ba ++ bb.map (· + (flat a).length)).length := by rw [List.length_append, List.length_map, ga.1, gb.1]; simp [flat, joinL]
    rw [this, List.getElem?_append_right (Nat.le_refl _)]
    simp

theorem okN_one {n : Nd} (h : okN n = 0) (ha : ar n.op = 1) : n = ⟨n.op, n.x, 0, 0, 0, 0⟩ := by
  unfold okN at h
  by_cases hh : badN n
  · simp [hh] at h
  · have h1 : n.op ≠ 1 ∧ n.op ≠ 2 := ar_12 (by omega)
    unfold badN at hh
    obtain ⟨op, x, y, m, k, v⟩ := n
    simp only [not_or, not_and, Decidable.not_not] at hh ha h1
    obtain ⟨-, h2, h3, h4, -⟩ := hh
    obtain ⟨rfl, rfl⟩ : k = 0 ∧ v = 0 := Decidable.byContradiction (fun hc => h2 h1.1 (fun a b => hc ⟨a, b⟩))
    obtain rfl := h3 h1.2
    obtain rfl := h4 (by omega)
    rfl
theorem okN_two {n : Nd} (h : okN n = 0) (ha : ar n.op = 2) : n = ⟨n.op, n.x, n.y, 0, 0, 0⟩ := by
  unfold okN at h
  by_cases hh : badN n
  · simp [hh] at h
  · have h1 : n.op ≠ 1 ∧ n.op ≠ 2 := ar_12 (by omega)
    unfold badN at hh
    obtain ⟨op, x, y, m, k, v⟩ := n
    simp only [not_or, not_and, Decidable.not_not] at hh ha h1
    obtain ⟨-, h2, h3, -, -⟩ := hh
    obtain ⟨rfl, rfl⟩ : k = 0 ∧ v = 0 := Decidable.byContradiction (fun hc => h2 h1.1 (fun a b => hc ⟨a, b⟩))
    obtain rfl := h3 h1.2
    rfl
theorem okN_zero {n : Nd} (h : okN n = 0) (ha : ar n.op = 0) : (n = ⟨1, 0, 0, 0, n.k, n.v⟩ ∧ vokB n.k n.v = true) ∨ (n = ⟨2, 0, 0, n.n, 0, 0⟩ ∧ 0 ≤ n.n ∧ n.n < 4) := by
  unfold okN at h
  by_cases hh : badN n
  · simp [hh] at h
  · rw [if_neg hh] at h
    by_cases h9 : n.n < 0 ∨ 4 ≤ n.n
    · simp [h9] at h
    · rw [if_neg h9] at h
      have hv : vokB n.k n.v = true := by
        by_cases hv : vokB n.k n.v = true
        · exact hv
        · simp [hv] at h
      unfold badN at hh
      obtain ⟨op, x, y, m, k, v⟩ := n
      simp only [not_or, not_and, Decidable.not_not] at hh ha h9 hv ⊢
      obtain ⟨-, h2, h3, h4, h5⟩ := hh
      obtain rfl := h4 (by omega)
      obtain rfl := h5 (by omega)
      have hop : op = 1 ∨ op = 2 := by
        unfold ar at ha
        by_cases h8 : op = 1 ∨ op = 2
        · exact h8
        · rw [if_neg h8] at ha
          split at ha
          · omega
          · split at ha <;> omega
      rcases hop with rfl | rfl
      · obtain rfl := h3 (by decide)
        exact .inl ⟨rfl, hv⟩
      · obtain ⟨rfl, rfl⟩ : k = 0 ∧ v = 0 := Decidable.byContradiction (fun hc => h2 (by decide) (fun a b => hc ⟨a, b⟩))
        exact .inr ⟨rfl, by omega, by omega⟩

/-- a list that may be is a tree, laid out -/
theorem good_flat : ∀ (N : Nat) (l : List Nd) (bs : List Nat), l.length ≤ N → Good l bs → 0 < l.length → bs.getD (l.length - 1) 0 = 0 → ∃ t, Wf t ∧ flat t = l := by
  intro N
  induction N with
  | zero => intro l bs h1 _ h2; omega
  | succ N ih =>
    intro l bs hN hg h0 hb
    have hi : l.length - 1 < l.length := by omega
    obtain ⟨l', n, rfl⟩ : ∃ l' n, l = l' ++ [n] := ⟨l.dropLast, l.getLast (by intro e; simp [e] at h0), (List.dropLast_concat_getLast _).symm⟩
    have hlen : (l' ++ [n]).length = l'.length + 1 := by simp
    have hidx : (l' ++ [n]).length - 1 = l'.length := by simp
    rw [hidx] at hb
    have hn : (l' ++ [n])[l'.length]? = some n := by simp
    obtain ⟨ok, a0, ha0, ha1, ha2⟩ := good_at hg hn
    have hbl : bs.length = l'.length + 1 := by rw [hg.1, hlen]
    have hle := ar_le n.op
    rcases (by omega : ar n.op = 0 ∨ ar n.op = 1 ∨ ar n.op = 2) with h | h | h
    · have e := ha0 h
      have e0 : l'.length = 0 := by rw [hb] at e; omega
      have : l' = [] := List.eq_nil_of_length_eq_zero e0
      subst this
      rcases okN_zero ok h with ⟨e1, e2⟩ | ⟨e1, e2, e3⟩
      · exact ⟨.cst n.k n.v, e2, by rw [flat, ← e1]; rfl⟩
      · exact ⟨.fld n.n, ⟨e2, e3⟩, by rw [flat, ← e1]; rfl⟩
    · obtain ⟨p0, hx, hbb⟩ := ha1 h
      have gp : Good l' (bs.take l'.length) := good_pre hg
      obtain ⟨t, wt, ft⟩ := ih l' _ (by rw [hlen] at hN; omega) gp p0 (by rw [getD_take _ _ _ (by omega), ← hbb, hb])
      refine ⟨.one n.op t, ⟨h, wt⟩, ?_⟩
      rw [flat, join1, ft, okN_one ok h, hx]
    · obtain ⟨p0, hy, hc, hx, hbb⟩ := ha2 h
      obtain ⟨c, hcc⟩ : ∃ c, bs.getD (l'.length - 1) 0 = c := ⟨_, rfl⟩
      rw [hcc] at hc hx hbb
      have gp : Good l' (bs.take l'.length) := good_pre hg
      have hc2 : c ≤ l'.length - 1 := by
        have := good_le hg (l'.length - 1) (by rw [hlen]; omega)
        rw [hcc] at this
        exact this
      have gl : Good (l'.take c) ((bs.take l'.length).take (l'.take c).length) := good_pre (m := l'.drop c) (by rw [List.take_append_drop]; exact gp)
      have lc : (l'.take c).length = c := by simp; omega
      obtain ⟨t1, w1, f1⟩ := ih (l'.take c) _ (by rw [lc]; rw [hlen] at hN; omega) gl (by rw [lc]; exact hc) (by
        rw [lc, getD_take _ _ _ (by omega), getD_take _ _ _ (by omega)]
        rw [hb, getD_take _ _ _ (by omega)] at hbb
        exact hbb.symm)
      have e1 : (bs.take l'.length).getD (l'.length - 1) 0 = c := by rw [getD_take _ _ _ (by omega)]; exact hcc
      have gm := good_cut gp (l'.length - 1) (by omega)
      rw [e1] at gm
      have et : l'.take (l'.length - 1 + 1) = l' := by rw [show l'.length - 1 + 1 = l'.length from by omega, List.take_length]
      rw [et] at gm
      have lm : ((l'.drop c).map (mv (-(c : Int)))).length = l'.length - c := by simp
      obtain ⟨t2, w2, f2⟩ := ih _ _ (by rw [lm]; rw [hlen] at hN; omega) gm (by rw [lm]; omega) (by
        rw [lm, List.getD_eq_getElem?_getD, List.getElem?_map, List.getElem?_drop]
        rw [show c + (l'.length - c - 1) = l'.length - 1 from by omega]
        have : ((bs.take l'.length).take (l'.length - 1 + 1))[l'.length - 1]? = some c := by
          rw [List.getElem?_take, if_pos (by omega), List.getElem?_take, if_pos (by omega)]
          rw [List.getD_eq_getElem?_getD] at hcc
          rw [List.getElem?_eq_getElem (by omega)] at hcc ⊢
          simpa using hcc
        rw [this]
        simp)
      refine ⟨.two n.op t1 t2, ⟨h, w1, w2⟩, ?_⟩
      rw [flat, joinL, f1, f2, map_mv_mv, lc]
      rw [show -(c : Int) + (c : Int) = 0 from by omega, map_mv_zero, List.take_append_drop]
      congr 1
      rw [okN_two ok h, hx, hy]
      simp
      omega

theorem chk_flat {l : List Nd} (h : chkE l = 0) : ∃ t, Wf t ∧ flat t = l ∧ l.length ≤ 40 := by
  obtain ⟨bs, g, h1, h2, h3⟩ := good_of_chk h
  obtain ⟨t, a, b⟩ := good_flat l.length l bs (Nat.le_refl _) g h2 (by rw [List.getD_eq_getElem?_getD, h3]; rfl)
  exact ⟨t, a, b, h1⟩
theorem flat_chk {t : Ex} (h : Wf t) (hl : (flat t).length ≤ 40) : chkE (flat t) = 0 := by
  obtain ⟨bs, g, e⟩ := flat_good t h
  exact chk_of_good g hl (flat_pos t) e

/-- a tree's value -/
def evT (O : Int → V2 → V2 → V2) (ev : List V2) : Ex → V2
  | .cst k v => (k, v)
  | .fld n => nth ev n
  | .one op a => O op (evT O ev a) (0, 0)
  | .two op a b => O op (evT O ev a) (evT O ev b)
theorem ev_flat (O : Int → V2 → V2 → V2) (ev : List V2) : ∀ t : Ex, Wf t → evL O ev (flat t) = evT O ev t
  | .cst k v, _ => by simp [evL, flat, evF, evN, nth, evT]
  | .fld n, _ => by simp [evL, flat, evF, evN, evT]; simp [nth]
  | .one op a, h => by
    obtain ⟨h1, h2⟩ : ar op = 1 ∧ Wf a := h
    rw [flat, ev_join1 O ev op _ h1, ev_flat O ev a h2, evT]
  | .two op a b, h => by
    obtain ⟨h1, h2, h3⟩ : ar op = 2 ∧ Wf a ∧ Wf b := h
    obtain ⟨bb, gb, -⟩ := flat_good b h3
    rw [flat, ev_join O ev op _ _ bb gb (flat_pos a) (flat_pos b) h1, ev_flat O ev a h2, ev_flat O ev b h3, evT]

/-- the kind that a node of an operation says -/
def kindO (op : Int) : Int := if op = 4 ∨ op = 5 ∨ op = 9 ∨ op = 10 ∨ op = 11 ∨ op = 12 then 2 else 1
/-- a tree's type -/
def tyT : Ex → Option Int
  | .cst k v => some k
  | .fld n => some 1
  | .one op a => match tyT a with
    | some k => if goes op k then some (kindO op) else none
    | none => none
  | .two op a b => match tyT a, tyT b with
    | some k, some m => if goes op k && goes op m then some (kindO op) else none
    | _, _ => none
def tyP : Option Int → V2
  | some k => (k, 0)
  | none => (0, 3)

theorem tyF_app : ∀ (l m : List Nd) (ks : List Int), tyF (l ++ m) ks = (tyF l ks).bind (tyF m)
  | [], m, ks => rfl
  | n :: l, m, ks => by
    show (if fitN n ks then tyF (l ++ m) (ks ++ [kindN n]) else none) = _
    by_cases h : fitN n ks = true
    · rw [if_pos h, tyF_app l m]
      simp [tyF, h]
    · rw [if_neg h]
      simp [tyF, h]
theorem tyF_some : ∀ (l : List Nd) (ks r : List Int), tyF l ks = some r → r = ks ++ l.map kindN
  | [], ks, r, h => by simp [tyF] at h; simp [h]
  | n :: l, ks, r, h => by
    unfold tyF at h
    split at h
    · have := tyF_some l _ r h
      simp [this]
    · cases h
theorem fitP_mv (op : Int) (P ks : List Int) (p : Int) (h0 : 0 ≤ p) (h1 : p < ks.length) : fitP op (P ++ ks) (p + P.length) = fitP op ks p := by
  unfold fitP
  rw [if_neg (by simp; omega), if_neg (by omega)]
  congr 1
  rw [show (p + P.length).toNat = P.length + p.toNat from by omega, List.getD_eq_getElem?_getD, List.getD_eq_getElem?_getD, List.getElem?_append_right (by omega)]
  congr 2
  omega
theorem kindN_mv (c : Int) (n : Nd) : kindN (mv c n) = kindN n := by
  unfold mv kindN
  repeat' split
  all_goals first | rfl | simp_all
theorem fitN_mv (n : Nd) (P ks : List Int) (h1 : 1 ≤ ar n.op → 0 ≤ n.x ∧ n.x < ks.length) (h2 : ar n.op = 2 → 0 ≤ n.y ∧ n.y < ks.length) : fitN (mv P.length n) (P ++ ks) = fitN n ks := by
  unfold fitN
  rw [mv_op]
  by_cases a1 : ar n.op = 1
  · have e : (mv (P.length : Int) n).x = n.x + P.length := by unfold mv; rw [if_pos a1]
    rw [if_pos a1, if_pos a1, e, fitP_mv _ _ _ _ (h1 (by omega)).1 (h1 (by omega)).2]
  · by_cases a2 : ar n.op = 2
    · have ex : (mv (P.length : Int) n).x = n.x + P.length := by unfold mv; rw [if_neg a1, if_pos a2]
      have ey : (mv (P.length : Int) n).y = n.y + P.length := by unfold mv; rw [if_neg a1, if_pos a2]
      rw [if_neg a1, if_pos a2, if_neg a1, if_pos a2, ex, ey, fitP_mv _ _ _ _ (h1 (by omega)).1 (h1 (by omega)).2, fitP_mv _ _ _ _ (h2 a2).1 (h2 a2).2]
    · rw [if_neg a1, if_neg a2, if_neg a1, if_neg a2]
theorem tyF_mv (P : List Int) : ∀ (m pre : List Nd) (bs : List Nat) (ks : List Int), Good (pre ++ m) bs → ks.length = pre.length → tyF (m.map (mv P.length)) (P ++ ks) = (tyF m ks).map (P ++ ·)
  | [], pre, bs, ks, hg, hk => rfl
  | n :: m, pre, bs, ks, hg, hk => by
    have hn : (pre ++ n :: m)[pre.length]? = some n := by simp
    obtain ⟨q1, q2⟩ := good_part hg hn
    have hf : fitN (mv P.length n) (P ++ ks) = fitN n ks := fitN_mv n P ks (fun a => by
        obtain ⟨a1, a2, -⟩ := q1 a
        omega) (fun a => by
        obtain ⟨a1, a2, -⟩ := q2 a
        omega)
    rw [List.map_cons]
    unfold tyF
    rw [hf]
    by_cases h : fitN n ks = true
    · rw [if_pos h, if_pos h, kindN_mv, List.append_assoc]
      exact tyF_mv P m (pre ++ [n]) bs (ks ++ [kindN n]) (by rw [List.append_assoc]; exact hg) (by simp [hk])
    · rw [if_neg h, if_neg h]
      rfl
theorem fitP_last (op : Int) (P ks : List Int) (hk : 0 < ks.length) : fitP op (P ++ ks) ((P.length : Int) + ks.length - 1) = goes op (ks.getD (ks.length - 1) 0) := by
  unfold fitP
  rw [if_neg (by simp; omega)]
  congr 1
  rw [show ((P.length : Int) + ks.length - 1).toNat = P.length + (ks.length - 1) from by omega, List.getD_eq_getElem?_getD, List.getD_eq_getElem?_getD, List.getElem?_append_right (by omega)]
  congr 2
  omega
theorem fitP_left (op : Int) (P ks : List Int) (hk : 0 < P.length) : fitP op (P ++ ks) ((P.length : Int) - 1) = goes op (P.getD (P.length - 1) 0) := by
  unfold fitP
  rw [if_neg (by simp; omega)]
  congr 1
  rw [show ((P.length : Int) - 1).toNat = P.length - 1 from by omega, List.getD_eq_getElem?_getD, List.getD_eq_getElem?_getD, List.getElem?_append_left (by omega)]

/-- the types ahead of a tree's last node, and its own -/
theorem tyF_flat : ∀ t : Ex, Wf t → match tyT t with
    | some k => ∃ ks, tyF (flat t) [] = some ks ∧ ks.length = (flat t).length ∧ ks.getD (ks.length - 1) 0 = k
    | none => tyF (flat t) [] = none
  | .cst k v, _ => ⟨[k], by simp [flat, tyF, fitN, ar, kindN], rfl, rfl⟩
  | .fld n, _ => ⟨[1], by simp [flat, tyF, fitN, ar, kindN], rfl, rfl⟩
  | .one op a, h => by
    obtain ⟨h1, h2⟩ : ar op = 1 ∧ Wf a := h
    have ih := tyF_flat a h2
    obtain ⟨o1, o2⟩ := ar_12 (by omega : 1 ≤ ar op)
    have hk : kindN ⟨op, ((flat a).length : Int) - 1, 0, 0, 0, 0⟩ = kindO op := by unfold kindN kindO; simp [o1]
    rw [flat, join1, tyF_app]
    unfold tyT
    rcases ht : tyT a with _ | k
    · rw [ht] at ih
      simp only at ih ⊢
      rw [ih]
      rfl
    · rw [ht] at ih
      simp only at ih ⊢
      obtain ⟨ks, e1, e2, e3⟩ := ih
      have pos : 0 < ks.length := by rw [e2]; exact flat_pos a
      rw [e1]
      have hfit : fitN ⟨op, ((flat a).length : Int) - 1, 0, 0, 0, 0⟩ ks = goes op k := by
        unfold fitN
        rw [if_pos h1]
        have := fitP_left op ks [] pos
        rw [List.append_nil, e2] at this
        rw [this, ← e3, e2]
      by_cases hg : goes op k = true
      · rw [if_pos hg]
        refine ⟨ks ++ [kindO op], ?_, by simp [e2], by simp⟩
        show (if fitN _ ks then tyF [] (ks ++ [kindN _]) else none) = _
        rw [hfit, if_pos hg, hk]
        rfl
      · rw [if_neg hg]
        show (if fitN _ ks then tyF [] (ks ++ [kindN _]) else none) = none
        rw [hfit, if_neg hg]
  | .two op a b, h => by
    obtain ⟨h1, h2, h3⟩ : ar op = 2 ∧ Wf a ∧ Wf b := h
    have iha := tyF_flat a h2
    have ihb := tyF_flat b h3
    obtain ⟨o1, o2⟩ := ar_12 (by omega : 1 ≤ ar op)
    obtain ⟨bb, gb, -⟩ := flat_good b h3
    have hk : kindN ⟨op, ((flat a).length : Int) - 1, ((flat a).length : Int) + (flat b).length - 1, 0, 0, 0⟩ = kindO op := by unfold kindN kindO; simp [o1]
    rw [flat, joinL, tyF_app, tyF_app]
    unfold tyT
    rcases hta : tyT a with _ | k
    · rw [hta] at iha
      simp only at iha ⊢
      rw [iha]
      rfl
    · rw [hta] at iha
      simp only at iha
      obtain ⟨ks, e1, e2, e3⟩ := iha
      have pos : 0 < ks.length := by rw [e2]; exact flat_pos a
      rw [e1]
      have hmv : tyF ((flat b).map (mv (flat a).length)) ks = (tyF (flat b) []).map (ks ++ ·) := by
        have := tyF_mv ks (flat b) [] bb [] (by simpa using gb) rfl
        rw [List.append_nil, e2] at this
        exact this
      rcases htb : tyT b with _ | m
      · rw [htb] at ihb
        simp only at ihb ⊢
        show ((tyF ((flat b).map (mv (flat a).length)) ks).bind _) = none
        rw [hmv, ihb]
        rfl
      · rw [htb] at ihb
        simp only at ihb ⊢
        obtain ⟨js, f1, f2, f3⟩ := ihb
        have posb : 0 < js.length := by rw [f2]; exact flat_pos b
        have hx : fitP op (ks ++ js) (((flat a).length : Int) - 1) = goes op k := by
          have := fitP_left op ks js pos
          rw [e2] at this
          rw [this, ← e3, e2]
        have hy : fitP op (ks ++ js) (((flat a).length : Int) + (flat b).length - 1) = goes op m := by
          have := fitP_last op ks js posb
          rw [e2, f2] at this
          rw [this, ← f3, f2]
        have hfit : fitN ⟨op, ((flat a).length : Int) - 1, ((flat a).length : Int) + (flat b).length - 1, 0, 0, 0⟩ (ks ++ js) = (goes op k && goes op m) := by
          unfold fitN
          simp only
          rw [if_neg (by omega), if_pos h1, hx, hy]
          cases goes op k <;> cases goes op m <;> rfl
        have hstep : ((some ks).bind (tyF ((flat b).map (mv (flat a).length)))).bind (tyF [⟨op, ((flat a).length : Int) - 1, ((flat a).length : Int) + (flat b).length - 1, 0, 0, 0⟩]) = if (goes op k && goes op m) = true then some (ks ++ js ++ [kindO op]) else none := by
          show ((tyF ((flat b).map (mv (flat a).length)) ks).bind _) = _
          rw [hmv, f1]
          show (if fitN _ (ks ++ js) then tyF [] (ks ++ js ++ [kindN _]) else none) = _
          rw [hfit, hk]
          rfl
        rw [hstep]
        by_cases hg : (goes op k && goes op m) = true
        · rw [if_pos hg, if_pos hg]
          exact ⟨ks ++ js ++ [kindO op], rfl, by simp [e2, f2], by simp⟩
        · rw [if_neg hg, if_neg hg]

theorem ty_flat (t : Ex) (h : Wf t) : tyE (flat t) = tyP (tyT t) := by
  have := tyF_flat t h
  have pos := flat_pos t
  unfold tyE
  rw [if_neg (by omega)]
  rcases ht : tyT t with _ | k
  · rw [ht] at this
    simp only at this
    rw [this]
    rfl
  · rw [ht] at this
    simp only at this
    obtain ⟨ks, e1, e2, e3⟩ := this
    rw [e1]
    simp only
    rw [← e2, e3]
    rfl
end Go.Proofs.Ytepfpmagppckeaa

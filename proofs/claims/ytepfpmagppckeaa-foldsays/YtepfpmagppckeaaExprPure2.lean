/- Plain facts on lists of nodes: the document's own test of an expression, and its types, come to what package expr says. Conditions: none. -/
import Derived.Test.YtepfpmagppckeaaExprPure
namespace Go.Proofs.Ytepfpmagppckeaa

/-- the stack of the document's test, last one first: where the expressions end that stand next to each other up to e -/
def Stk (bs : List Nat) : List Nat → Nat → Prop
  | [], e => e = 0
  | r :: rs, e => e = r + 1 ∧ Stk bs rs (bs.getD r 0)

/-- the document's loop: the error, or the stack (last one first) -/
def fltF : Nat → List Nd → List Nat → Int × List Nat
  | _, [], st => (0, st)
  | i, n :: l, st => if okN n ≠ 0 then (okN n, st) else
    if ar n.op = 0 then fltF (i + 1) l (i :: st)
    else if ar n.op = 1 then match st with
      | r :: rs => if (r : Int) = n.x then fltF (i + 1) l (i :: rs) else (3, st)
      | _ => (3, st)
    else match st with
      | r :: q :: rs => if (q : Int) = n.x ∧ (r : Int) = n.y then fltF (i + 1) l (i :: rs) else (3, st)
      | _ => (3, st)
/-- what the document's test says -/
def fltE (l : List Nd) : Int := if 40 < l.length then 2 else if (fltF 0 l []).1 ≠ 0 then (fltF 0 l []).1 else if (fltF 0 l []).2.length ≠ 1 then 3 else 0

theorem stk_ext (bs : List Nat) (b : Nat) : ∀ (st : List Nat) (e : Nat), e ≤ bs.length → (∀ j, j < bs.length → bs.getD j 0 ≤ j) → Stk bs st e → Stk (bs ++ [b]) st e
  | [], e, _, _, h => h
  | r :: rs, e, he, hle, h => by
    obtain ⟨h1, h2⟩ := h
    have hr : (bs ++ [b]).getD r 0 = bs.getD r 0 := by
      rw [List.getD_eq_getElem?_getD, List.getD_eq_getElem?_getD, List.getElem?_append_left (by omega)]
    have := hle r (by omega)
    exact ⟨h1, by rw [hr]; exact stk_ext bs b rs _ (by omega) hle h2⟩

theorem okN_ar {n : Nd} (h : okN n = 0) : ar n.op = 0 ∨ ar n.op = 1 ∨ ar n.op = 2 := by
  have := ar_le n.op
  unfold okN at h
  by_cases hh : badN n
  · simp [hh] at h
  · unfold badN at hh
    omega

theorem getD_last (bs : List Nat) (b : Nat) : (bs ++ [b]).getD bs.length 0 = b := by
  rw [List.getD_eq_getElem?_getD]
  simp

theorem flt_chk : ∀ (l pre : List Nd) (bs st : List Nat), Good pre bs → Stk bs st pre.length →
    (fltF pre.length l st).1 = (chkF l bs).1 ∧ ((chkF l bs).1 = 0 → Stk (chkF l bs).2 (fltF pre.length l st).2 (pre.length + l.length))
  | [], pre, bs, st, hg, hs => ⟨rfl, fun _ => hs⟩
  | n :: l, pre, bs, st, hg, hs => by
    have hle : ∀ j, j < bs.length → bs.getD j 0 ≤ j := fun j hj => good_le hg j (by rw [← hg.1]; exact hj)
    have hlen := hg.1
    unfold fltF chkF
    by_cases h0 : okN n = 0
    · simp only [h0, ne_eq, not_true_eq_false, if_false]
      have go : ∀ (b : Nat) (rs : List Nat), begN n bs = some b → Stk bs rs b → b ≤ pre.length →
          (fltF (pre.length + 1) l (pre.length :: rs)).1 = (chkF l (bs ++ [b])).1 ∧ ((chkF l (bs ++ [b])).1 = 0 → Stk (chkF l (bs ++ [b])).2 (fltF (pre.length + 1) l (pre.length :: rs)).2 (pre.length + (n :: l).length)) := by
        intro b rs hb hst hbl
        have := flt_chk l (pre ++ [n]) (bs ++ [b]) (pre.length :: rs) (good_snoc hg h0 hb) (by
          refine ⟨by simp, ?_⟩
          rw [← hlen, getD_last]
          exact stk_ext bs b rs b (by omega) hle hst)
        simp only [List.length_append, List.length_cons, List.length_nil] at this ⊢
        rw [show pre.length + (l.length + 1) = pre.length + 1 + l.length from by omega]
        exact this
      rcases okN_ar h0 with e | e | e
      · have hb : begN n bs = some pre.length := by unfold begN; rw [if_neg (by omega), if_neg (by omega), hlen]
        rw [if_pos e, hb]
        exact go _ st hb hs (Nat.le_refl _)
      · rw [if_neg (by omega), if_pos e]
        have hb : begN n bs = stepB bs pre.length n.x := by unfold begN; rw [if_pos e, hlen]
        cases st with
        | nil =>
          have hs' : pre.length = 0 := hs
          have : begN n bs = none := by rw [hb]; unfold stepB; rw [if_pos (Or.inl hs')]
          rw [this]
          simp
        | cons r rs =>
          obtain ⟨h1, h2⟩ := hs
          have hr := hle r (by omega)
          by_cases hx : (r : Int) = n.x
          · have : begN n bs = some (bs.getD r 0) := by rw [hb]; unfold stepB; rw [if_neg (by omega), h1]; rfl
            rw [this]
            simp only [hx, if_true]
            exact go _ rs this h2 (by omega)
          · have : begN n bs = none := by rw [hb]; unfold stepB; rw [if_pos (by omega)]
            rw [this]
            simp only [hx, if_false]
            simp
      · rw [if_neg (by omega), if_neg (by omega)]
        have hb : begN n bs = (stepB bs pre.length n.y).bind (fun b => stepB bs b n.x) := by unfold begN; rw [if_neg (by omega), if_pos e, hlen]
        cases st with
        | nil =>
          have hs' : pre.length = 0 := hs
          have : begN n bs = none := by rw [hb]; unfold stepB; rw [if_pos (Or.inl hs')]; rfl
          rw [this]
          simp
        | cons r rs =>
          obtain ⟨h1, h2⟩ := hs
          have hr := hle r (by omega)
          by_cases hy : (r : Int) = n.y
          · have s1 : stepB bs pre.length n.y = some (bs.getD r 0) := by unfold stepB; rw [if_neg (by omega), h1]; rfl
            rw [s1] at hb
            simp only [Option.bind_some] at hb
            cases rs with
            | nil =>
              have h2' : bs.getD r 0 = 0 := h2
              have : begN n bs = none := by rw [hb]; unfold stepB; rw [if_pos (Or.inl h2')]
              rw [this]
              simp
            | cons q rs =>
              obtain ⟨h3, h4⟩ := h2
              have hq := hle q (by omega)
              by_cases hx : (q : Int) = n.x
              · have : begN n bs = some (bs.getD q 0) := by rw [hb]; unfold stepB; rw [if_neg (by omega), h3]; rfl
                rw [this]
                simp only [hx, hy, and_self, if_true]
                exact go _ rs this h4 (by omega)
              · have : begN n bs = none := by rw [hb]; unfold stepB; rw [if_pos (by omega)]
                rw [this]
                simp only [hx, false_and, if_false]
                simp
          · have s1 : stepB bs pre.length n.y = none := by unfold stepB; rw [if_pos (by omega)]
            rw [s1] at hb
            simp only [Option.bind_none] at hb
            rw [hb]
            cases rs with
            | nil => simp
            | cons q rs =>
              simp only [hy, and_false, if_false]
              simp
    · simp only [h0, ne_eq, not_false_eq_true, if_true]
      exact ⟨trivial, fun h => h.elim⟩

theorem stk_len (bs : List Nat) (st : List Nat) (e : Nat) (h : Stk bs st e) : st.length = 1 ↔ (0 < e ∧ bs.getD (e - 1) 0 = 0) := by
  cases st with
  | nil => have : e = 0 := h; simp [this]
  | cons r rs =>
    obtain ⟨h1, h2⟩ := h
    subst h1
    cases rs with
    | nil => have : bs.getD r 0 = 0 := h2; simp; rw [← List.getD_eq_getElem?_getD]; exact this
    | cons q rs => obtain ⟨h3, h4⟩ := h2; simp; rw [← List.getD_eq_getElem?_getD, h3]; omega

theorem fault_is (l : List Nd) : fltE l = chkE l := by
  obtain ⟨h1, h2⟩ := flt_chk l [] [] [] good_nil rfl
  simp only [List.length_nil, Nat.zero_add] at h1 h2
  unfold fltE chkE
  by_cases h : 40 < l.length
  · rw [if_pos h, if_pos h]
  · rw [if_neg h, if_neg h, h1]
    by_cases h3 : (chkF l []).1 = 0
    · have hs := stk_len _ _ _ (h2 h3)
      simp only [h3, ne_eq, not_true_eq_false, if_false]
      by_cases h4 : (fltF 0 l []).2.length = 1
      · obtain ⟨h5, h6⟩ := hs.1 h4
        have : ¬ (l.length = 0 ∨ ¬ (chkF l []).2.getD (l.length - 1) 0 = 0) := by rw [h6]; omega
        rw [if_neg this]
        simp [h4]
      · have : l.length = 0 ∨ ¬ (chkF l []).2.getD (l.length - 1) 0 = 0 := by
          by_cases h5 : l.length = 0
          · exact .inl h5
          · exact .inr fun h6 => h4 (hs.2 ⟨by omega, h6⟩)
        rw [if_pos this]
        simp [h4]
    · simp only [h3, ne_eq, not_false_eq_true, if_true]
end Go.Proofs.Ytepfpmagppckeaa

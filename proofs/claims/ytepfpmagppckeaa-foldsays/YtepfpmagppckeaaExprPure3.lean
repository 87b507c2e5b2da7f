/- Plain facts on lists of nodes: what Type of package expr comes to, and that the document's own way down the nodes says the same. Conditions: none. -/
import Derived.Test.YtepfpmagppckeaaExprPure2
namespace Go.Proofs.Ytepfpmagppckeaa

def goes (op k : Int) : Bool := if op = 4 ∨ op = 9 ∨ op = 10 then !(k == 1) else if op = 5 then true else !(k == 2)
def kindN (n : Nd) : Int := if n.op = 1 then n.k else if n.op = 4 ∨ n.op = 5 ∨ n.op = 9 ∨ n.op = 10 ∨ n.op = 11 ∨ n.op = 12 then 2 else 1
def fitP (op : Int) (ks : List Int) (p : Int) : Bool := if p < 0 ∨ (ks.length : Int) ≤ p then false else goes op (ks.getD p.toNat 0)
def fitN (n : Nd) (ks : List Int) : Bool := if ar n.op = 1 then fitP n.op ks n.x else if ar n.op = 2 then (if fitP n.op ks n.y then fitP n.op ks n.x else false) else true
/-- the loop of Type -/
def tyF : List Nd → List Int → Option (List Int)
  | [], ks => some ks
  | n :: l, ks => if fitN n ks then tyF l (ks ++ [kindN n]) else none
/-- what Type says: the kind, the error -/
def tyE (l : List Nd) : V2 := if l.length = 0 then (0, 3) else match tyF l [] with
  | none => (0, 3)
  | some ks => (ks.getD (l.length - 1) 0, 0)

/-- the document's way down -/
def tyAt (l : List Nd) : Nat → Nat → Int × Bool
  | 0, _ => (0, false)
  | f + 1, i => match l[i]? with
    | none => (0, false)
    | some n => if n.op = 1 then (n.k, true) else if n.op = 2 then (1, true) else
      let a := tyAt l f n.x.toNat
      let b := if ar n.op = 2 then tyAt l f n.y.toNat else a
      if a.2 = false ∨ b.2 = false then (0, false) else if n.op = 5 then (2, true) else
      let want : Int := if n.op = 4 ∨ n.op = 9 ∨ n.op = 10 then 2 else 1
      if (a.1 ≠ 0 ∧ a.1 ≠ want) ∨ (b.1 ≠ 0 ∧ b.1 ≠ want) then (0, false) else (if n.op = 11 ∨ n.op = 12 then 2 else want, true)

def fitAt (l : List Nd) (j : Nat) : Prop := ∀ n, l[j]? = some n → fitN n ((l.take j).map kindN) = true

theorem tyF_yes : ∀ (l pre : List Nd), (∀ j, pre.length ≤ j → fitAt (pre ++ l) j) → tyF l (pre.map kindN) = some ((pre ++ l).map kindN)
  | [], pre, _ => by simp [tyF]
  | n :: l, pre, h => by
    have h1 := h pre.length (Nat.le_refl _) n (by simp)
    simp only [List.take_left'] at h1
    unfold tyF
    rw [if_pos h1]
    have := tyF_yes l (pre ++ [n]) (fun j hj => by
      have := h j (by simp at hj; omega)
      simpa using this)
    simpa using this
theorem tyF_no : ∀ (l pre : List Nd), (∃ j, pre.length ≤ j ∧ ¬ fitAt (pre ++ l) j) → tyF l (pre.map kindN) = none
  | [], pre, ⟨j, h1, h2⟩ => by
    exact absurd (fun n hn => by rw [List.getElem?_eq_none (by simpa using h1)] at hn; cases hn) h2
  | n :: l, pre, ⟨j, h1, h2⟩ => by
    unfold tyF
    by_cases hf : fitN n (pre.map kindN) = true
    · rw [if_pos hf]
      have := tyF_no l (pre ++ [n]) ⟨j, by
        by_cases hj : j = pre.length
        · subst hj
          exact absurd (fun m hm => by simp at hm; subst hm; simpa using hf) h2
        · simp; omega, by simpa using h2⟩
      simpa using this
    · rw [if_neg hf]

theorem okN_kind {n : Nd} (h : okN n = 0) : n.op = 1 → n.k = 0 ∨ n.k = 1 ∨ n.k = 2 := by
  intro _
  unfold okN at h
  by_cases hh : badN n
  · simp [hh] at h
  · rw [if_neg hh] at h
    by_cases h3 : n.n < 0 ∨ 4 ≤ n.n
    · simp [h3] at h
    · rw [if_neg h3] at h
      by_cases hv : vokB n.k n.v = true
      · unfold vokB at hv
        simp at hv
        omega
      · rw [if_neg hv] at h; exact absurd h (by decide)

theorem kindN_in {n : Nd} (h : okN n = 0) : kindN n = 0 ∨ kindN n = 1 ∨ kindN n = 2 := by
  unfold kindN
  by_cases h1 : n.op = 1
  · rw [if_pos h1]; exact okN_kind h h1
  · rw [if_neg h1]
    split <;> omega

theorem goes_is (op a : Int) (h : a = 0 ∨ a = 1 ∨ a = 2) (h5 : op ≠ 5) : goes op a = !decide (a ≠ 0 ∧ a ≠ (if op = 4 ∨ op = 9 ∨ op = 10 then 2 else 1)) := by
  unfold goes
  by_cases h4 : op = 4 ∨ op = 9 ∨ op = 10
  · rw [if_pos h4, if_pos h4]
    rcases h with rfl | rfl | rfl <;> decide
  · rw [if_neg h4, if_neg h4, if_neg h5]
    rcases h with rfl | rfl | rfl <;> decide

theorem kinds_at (l : List Nd) (i p : Nat) (m : Nd) (hp : p < i) (hm : l[p]? = some m) : ((l.take i).map kindN).getD p 0 = kindN m ∧ p < ((l.take i).map kindN).length := by
  have := (List.getElem?_eq_some_iff.1 hm).1
  refine ⟨?_, by simp; omega⟩
  rw [List.getD_eq_getElem?_getD, List.getElem?_map, List.getElem?_take_of_lt hp, hm]
  rfl

theorem fitP_at (l : List Nd) (i : Nat) (op p : Int) (m : Nd) (h0 : 0 ≤ p) (hp : p.toNat < i) (hm : l[p.toNat]? = some m) : fitP op ((l.take i).map kindN) p = goes op (kindN m) := by
  obtain ⟨h1, h2⟩ := kinds_at l i p.toNat m hp hm
  unfold fitP
  rw [if_neg (by omega), h1]

open Classical in
theorem tyAt_is {l : List Nd} {bs : List Nat} (h : Good l bs) : ∀ (i : Nat), i < l.length → ∀ (f : Nat) (n : Nd), i < f → l[i]? = some n → tyAt l f i = if (∀ j, bs.getD i 0 ≤ j → j ≤ i → fitAt l j) then (kindN n, true) else (0, false) := by
  intro i
  induction i using Nat.strongRecOn with
  | ind i ih =>
    intro hi f n hf hn
    obtain ⟨f, rfl⟩ : ∃ g, f = g + 1 := ⟨f - 1, by omega⟩
    obtain ⟨p1, p2⟩ := good_part h hn
    obtain ⟨ok, a0, a1, a2, a3⟩ := good_at h hn
    have hle := good_le h
    have := ar_le n.op
    have hself : (∀ j, bs.getD i 0 ≤ j → j ≤ i → fitAt l j) → fitN n ((l.take i).map kindN) = true := fun H => H i (hle i hi) (Nat.le_refl _) n hn
    unfold tyAt
    rw [hn]
    simp only
    rcases (by omega : ar n.op = 0 ∨ ar n.op = 1 ∨ ar n.op = 2) with e | e | e
    · have hfit : ∀ j, bs.getD i 0 ≤ j → j ≤ i → fitAt l j := by
        intro j h1 h2 m hm
        have hj : j = i := by have := a1 e; omega
        subst hj
        rw [hn] at hm
        cases hm
        unfold fitN
        rw [if_neg (by omega), if_neg (by omega)]
      rw [if_pos hfit]
      have : n.op = 1 ∨ n.op = 2 := by
        unfold ar at e
        by_cases hh : n.op = 1 ∨ n.op = 2
        · exact hh
        · rw [if_neg hh] at e
          repeat' split at e
          all_goals omega
      unfold kindN
      rcases this with q | q
      · simp [q]
      · simp [q]
    · obtain ⟨n1, n2⟩ := ar_12 (by omega : 1 ≤ ar n.op)
      obtain ⟨x0, x1, x2⟩ := p1 (by omega)
      have xl : n.x.toNat < l.length := by omega
      have hm := List.getElem?_eq_getElem xl
      have IH := ih n.x.toNat (by omega) xl f l[n.x.toNat] (by omega) hm
      have ne2 : ¬ (ar n.op = 2) := by omega
      obtain ⟨okm, -⟩ := good_at h hm
      have hk := kindN_in okm
      have hfp := fitP_at l i n.op n.x l[n.x.toNat] x0 (by omega) hm
      have hfn : fitN n ((l.take i).map kindN) = goes n.op (kindN l[n.x.toNat]) := by unfold fitN; rw [if_pos e, hfp]
      have hx1 : n.x.toNat + 1 = i := by have := a2 e; omega
      rw [if_neg n1, if_neg n2, if_neg ne2, IH]
      rw [x2]
      by_cases H : ∀ j, bs.getD i 0 ≤ j → j ≤ n.x.toNat → fitAt l j
      · rw [if_pos H]
        simp only [or_self, Bool.true_eq_false, if_false]
        have hall : (∀ j, bs.getD i 0 ≤ j → j ≤ i → fitAt l j) ↔ goes n.op (kindN l[n.x.toNat]) = true := by
          rw [← hfn]
          refine ⟨hself, fun hg j h1 h2 => ?_⟩
          by_cases hj : j = i
          · subst hj; intro m hm'; rw [hn] at hm'; cases hm'; exact hg
          · exact H j h1 (by omega)
        by_cases h5 : n.op = 5
        · have hg : goes n.op (kindN l[n.x.toNat]) = true := by unfold goes; rw [h5]; simp
          rw [if_pos h5, if_pos (hall.2 hg)]
          unfold kindN
          simp [h5]
        · rw [if_neg h5]
          have hgi := goes_is n.op _ hk h5
          by_cases hg : goes n.op (kindN l[n.x.toNat]) = true
          · rw [if_pos (hall.2 hg)]
            rw [hgi] at hg
            simp only [Bool.not_eq_true', decide_eq_false_iff_not] at hg
            rw [if_neg hg]
            have : n.op = 3 ∨ n.op = 4 := by
              unfold ar at e
              repeat' split at e
              all_goals omega
            unfold kindN
            rcases this with q | q <;> simp [q]
          · rw [if_neg (fun H' => hg (hall.1 H'))]
            rw [hgi] at hg
            simp only [Bool.not_eq_true', decide_eq_false_iff_not, Decidable.not_not] at hg
            rw [if_pos hg]
      · rw [if_neg H]
        simp only [or_self, if_true]
        rw [if_neg]
        exact fun H' => H fun j h1 h2 => H' j h1 (by omega)
    · obtain ⟨n1, n2⟩ := ar_12 (by omega : 1 ≤ ar n.op)
      obtain ⟨x0, x1, x2⟩ := p1 (by omega)
      obtain ⟨y0, y1, y2⟩ := p2 e
      have xl : n.x.toNat < l.length := by omega
      have yl : n.y.toNat < l.length := by omega
      have hm := List.getElem?_eq_getElem xl
      have hm' := List.getElem?_eq_getElem yl
      have IH := ih n.x.toNat (by omega) xl f l[n.x.toNat] (by omega) hm
      have IH' := ih n.y.toNat (by omega) yl f l[n.y.toNat] (by omega) hm'
      obtain ⟨okm, -⟩ := good_at h hm
      obtain ⟨okm', -⟩ := good_at h hm'
      have hk := kindN_in okm
      have hk' := kindN_in okm'
      have hfp := fitP_at l i n.op n.x l[n.x.toNat] x0 (by omega) hm
      have hfp' := fitP_at l i n.op n.y l[n.y.toNat] (by omega) (by omega) hm'
      have n5 : n.op ≠ 5 := by intro q; rw [q] at e; exact absurd e (by decide)
      have n4 : n.op ≠ 4 := by intro q; rw [q] at e; exact absurd e (by decide)
      have hyi : n.y.toNat = i - 1 := by omega
      have hbx : bs.getD n.y.toNat 0 = n.x.toNat + 1 := by rw [hyi]; omega
      have hfn : fitN n ((l.take i).map kindN) = (goes n.op (kindN l[n.y.toNat]) && goes n.op (kindN l[n.x.toNat])) := by
        unfold fitN
        rw [if_neg (by omega), if_pos e, hfp, hfp']
        cases goes n.op (kindN l[n.y.toNat]) <;> rfl
      have hxi := hle n.x.toNat xl
      rw [if_neg n1, if_neg n2, if_pos e, IH, IH', hbx, x2]
      by_cases H : ∀ j, bs.getD i 0 ≤ j → j ≤ n.x.toNat → fitAt l j
      · by_cases H2 : ∀ j, n.x.toNat + 1 ≤ j → j ≤ n.y.toNat → fitAt l j
        · rw [if_pos H, if_pos H2]
          simp only [or_self, Bool.true_eq_false, if_false]
          have hall : (∀ j, bs.getD i 0 ≤ j → j ≤ i → fitAt l j) ↔ (goes n.op (kindN l[n.y.toNat]) && goes n.op (kindN l[n.x.toNat])) = true := by
            rw [← hfn]
            refine ⟨hself, fun hg j h1 h2 => ?_⟩
            by_cases hj : j = i
            · subst hj; intro m hm'; rw [hn] at hm'; cases hm'; exact hg
            · by_cases hjx : j ≤ n.x.toNat
              · exact H j h1 hjx
              · exact H2 j (by omega) (by omega)
          rw [if_neg n5]
          have hgi := goes_is n.op _ hk n5
          have hgi' := goes_is n.op _ hk' n5
          by_cases hg : (goes n.op (kindN l[n.y.toNat]) && goes n.op (kindN l[n.x.toNat])) = true
          · rw [if_pos (hall.2 hg)]
            rw [hgi, hgi'] at hg
            simp only [Bool.and_eq_true, Bool.not_eq_true', decide_eq_false_iff_not] at hg
            rw [if_neg (fun q => q.elim hg.2 hg.1)]
            have : n.op = 6 ∨ n.op = 7 ∨ n.op = 8 ∨ n.op = 9 ∨ n.op = 10 ∨ n.op = 11 ∨ n.op = 12 := by
              unfold ar at e
              repeat' split at e
              all_goals omega
            unfold kindN
            rcases this with q | q | q | q | q | q | q <;> simp [q]
          · rw [if_neg (fun H' => hg (hall.1 H'))]
            rw [hgi, hgi'] at hg
            rw [if_pos]
            by_cases hA : kindN l[n.x.toNat] ≠ 0 ∧ kindN l[n.x.toNat] ≠ (if n.op = 4 ∨ n.op = 9 ∨ n.op = 10 then 2 else 1)
            · exact .inl hA
            · right
              by_cases hB : kindN l[n.y.toNat] ≠ 0 ∧ kindN l[n.y.toNat] ≠ (if n.op = 4 ∨ n.op = 9 ∨ n.op = 10 then 2 else 1)
              · exact hB
              · exact absurd (by simp only [decide_eq_false hA, decide_eq_false hB]; rfl) hg
        · rw [if_neg H2]
          simp only [or_true, if_true]
          rw [if_neg]
          exact fun H' => H2 fun j h1 h2 => H' j (by omega) (by omega)
      · rw [if_neg H]
        simp only [true_or, if_true]
        rw [if_neg]
        exact fun H' => H fun j h1 h2 => H' j h1 (by omega)

open Classical in
/-- both say the same of a whole expression -/
theorem type_is {l : List Nd} {bs : List Nat} (h : Good l bs) (h0 : 0 < l.length) (hb : bs.getD (l.length - 1) 0 = 0) :
    tyE l = ((tyAt l l.length (l.length - 1)).1, if (tyAt l l.length (l.length - 1)).2 then 0 else 3) := by
  have hl : l.length - 1 < l.length := by omega
  rw [tyAt_is h (l.length - 1) hl l.length _ hl (List.getElem?_eq_getElem hl), hb]
  unfold tyE
  rw [if_neg (by omega)]
  by_cases H : ∀ j, 0 ≤ j → j ≤ l.length - 1 → fitAt l j
  · rw [if_pos H]
    have := tyF_yes l [] (fun j _ => by
      simp only [List.nil_append]
      by_cases hj : j < l.length
      · exact H j (Nat.zero_le _) (by omega)
      · intro m hm
        rw [List.getElem?_eq_none (by omega)] at hm
        cases hm)
    simp only [List.map_nil, List.nil_append] at this
    rw [this]
    simp only [if_true]
    rw [List.getD_eq_getElem?_getD, List.getElem?_map, List.getElem?_eq_getElem hl]
    rfl
  · rw [if_neg H]
    have hex : ∃ j, ([] : List Nd).length ≤ j ∧ ¬ fitAt ([] ++ l) j := by
      by_cases hh : ∃ j, ([] : List Nd).length ≤ j ∧ ¬ fitAt ([] ++ l) j
      · exact hh
      · refine absurd (fun j _ _ => ?_) H
        by_cases hj : fitAt l j
        · exact hj
        · exact absurd ⟨j, Nat.zero_le _, by simpa using hj⟩ hh
    have := tyF_no l [] hex
    simp only [List.map_nil] at this
    rw [this]
    simp
end Go.Proofs.Ytepfpmagppckeaa

/- Several texts in one, each with its own head. What is proved: what the parts say. Conditions: theirs. -/
/- Plain facts on lists of nodes: what Check, Eval, Cut and Join of package expr come to, and how they go together. Conditions: none. -/
namespace Go.Proofs.YteaanpdckkmjoaaGreatDoor

/-- a node -/
structure Nd where
  op : Int
  x : Int
  y : Int
  n : Int
  k : Int
  v : Int
deriving DecidableEq

abbrev V2 := Int × Int

def ar (op : Int) : Int := if op = 1 ∨ op = 2 then 0 else if 3 ≤ op ∧ op ≤ 5 then 1 else if 6 ≤ op ∧ op ≤ 12 then 2 else -1

theorem ar_le (op : Int) : ar op ≤ 2 := by unfold ar; repeat' split
                                           all_goals omega

def vokB (k n : Int) : Bool := decide ((k = 0 ∧ n = 0) ∨ (k = 1 ∧ -1000000000 ≤ n ∧ n ≤ 1000000000) ∨ (k = 2 ∧ (n = 0 ∨ n = 1)))

/-- the first test of checkNode -/
def badN (n : Nd) : Prop := ar n.op < 0 ∨ (n.op ≠ 1 ∧ ¬ (n.k = 0 ∧ n.v = 0)) ∨ (n.op ≠ 2 ∧ n.n ≠ 0) ∨ (ar n.op < 2 ∧ n.y ≠ 0) ∨ (ar n.op < 1 ∧ n.x ≠ 0)
instance (n : Nd) : Decidable (badN n) := by unfold badN; infer_instance
/-- what checkNode says -/
def okN (n : Nd) : Int := if badN n then 3 else if n.n < 0 ∨ 4 ≤ n.n then 1 else if vokB n.k n.v then 0 else 3

/-- a step of beginOf -/
def stepB (bs : List Nat) (b : Nat) (p : Int) : Option Nat := if b = 0 ∨ p ≠ (b : Int) - 1 then none else some (bs.getD (b - 1) 0)
def begN (n : Nd) (bs : List Nat) : Option Nat :=
  if ar n.op = 1 then stepB bs bs.length n.x else if ar n.op = 2 then (stepB bs bs.length n.y).bind (fun b => stepB bs b n.x) else some bs.length

/-- the loop of Check: the error, and where they begin -/
def chkF : List Nd → List Nat → Int × List Nat
  | [], bs => (0, bs)
  | n :: l, bs => if okN n ≠ 0 then (okN n, bs) else match begN n bs with
    | none => (3, bs)
    | some b => chkF l (bs ++ [b])
/-- what Check says -/
def chkE (l : List Nd) : Int :=
  if 40 < l.length then 2 else if (chkF l []).1 ≠ 0 then (chkF l []).1 else if l.length = 0 ∨ (chkF l []).2.getD (l.length - 1) 0 ≠ 0 then 3 else 0

/-- each node's parts are just ahead of it, and bs tells where they begin -/
def Good (l : List Nd) (bs : List Nat) : Prop :=
  bs.length = l.length ∧ ∀ i n, l[i]? = some n → okN n = 0 ∧ ∃ b, bs[i]? = some b ∧ begN n (bs.take i) = some b

theorem good_nil : Good [] [] := ⟨rfl, by simp⟩

theorem good_snoc {l : List Nd} {bs : List Nat} {n : Nd} {b : Nat} (h : Good l bs) (h1 : okN n = 0) (h2 : begN n bs = some b) : Good (l ++ [n]) (bs ++ [b]) := by
  refine ⟨by simp [h.1], fun i m hi => ?_⟩
  by_cases hl : i < l.length
  · rw [List.getElem?_append_left hl] at hi
    obtain ⟨a1, c, a2, a3⟩ := h.2 i m hi
    exact ⟨a1, c, by rw [List.getElem?_append_left (by rw [h.1]; exact hl), a2], by rw [List.take_append_of_le_length (by rw [h.1]; omega), a3]⟩
  · rw [List.getElem?_append_right (by omega)] at hi
    have e : i = l.length := by
      have := (List.getElem?_eq_some_iff.1 hi).1
      simp at this; omega
    subst e
    simp at hi
    subst hi
    exact ⟨h1, b, by rw [List.getElem?_append_right (by rw [h.1]; exact Nat.le_refl _), h.1]; simp, by rw [← h.1]; simpa using h2⟩

theorem good_pre {l m : List Nd} {bs : List Nat} (h : Good (l ++ m) bs) : Good l (bs.take l.length) := by
  have hlen := h.1
  simp at hlen
  refine ⟨by simp [hlen], fun i n hi => ?_⟩
  have hl := (List.getElem?_eq_some_iff.1 hi).1
  obtain ⟨a1, c, a2, a3⟩ := h.2 i n (by rw [List.getElem?_append_left hl, hi])
  exact ⟨a1, c, by rw [List.getElem?_take_of_lt hl, a2], by rw [List.take_take, Nat.min_eq_left (by omega), a3]⟩

theorem chkF_good : ∀ (l pre : List Nd) (bs bs' : List Nat), Good pre bs → chkF l bs = (0, bs') → Good (pre ++ l) bs'
  | [], pre, bs, bs', h, e => by simp [chkF] at e; subst e; simpa using h
  | n :: l, pre, bs, bs', h, e => by
    unfold chkF at e
    by_cases h0 : okN n = 0
    · rw [if_neg (by simpa using h0)] at e
      cases hb : begN n bs with
      | none => rw [hb] at e; simp at e
      | some b =>
        rw [hb] at e
        have := chkF_good l (pre ++ [n]) (bs ++ [b]) bs' (good_snoc h h0 hb) e
        simpa using this
    · rw [if_pos h0] at e
      simp at e
      exact absurd e.1 h0

theorem good_chkF : ∀ (l pre : List Nd) (bs : List Nat), Good (pre ++ l) bs → chkF l (bs.take pre.length) = (0, bs)
  | [], pre, bs, h => by
    have := h.1
    simp at this
    simp [chkF, ← this]
  | n :: l, pre, bs, h => by
    obtain ⟨h0, b, h1, h2⟩ := h.2 pre.length n (by simp)
    unfold chkF
    rw [if_neg (by simpa using h0), h2]
    have := good_chkF l (pre ++ [n]) bs (by simpa using h)
    have hl := (List.getElem?_eq_some_iff.1 h1).1
    rw [List.length_append, List.length_singleton, ← List.take_append_getElem hl] at this
    rw [(List.getElem?_eq_some_iff.1 h1).2] at this
    exact this

theorem good_of_chk {l : List Nd} (h : chkE l = 0) : ∃ bs, Good l bs ∧ l.length ≤ 40 ∧ 0 < l.length ∧ bs[l.length - 1]? = some 0 := by
  unfold chkE at h
  by_cases h1 : 40 < l.length
  · simp [h1] at h
  rw [if_neg h1] at h
  by_cases h2 : (chkF l []).1 = 0
  · rw [if_neg (by simpa using h2)] at h
    by_cases h3 : l.length = 0 ∨ (chkF l []).2.getD (l.length - 1) 0 ≠ 0
    · rw [if_pos h3] at h; exact absurd h (by decide)
    · have g := chkF_good l [] [] (chkF l []).2 good_nil (by rw [← h2])
      simp only [List.nil_append] at g
      refine ⟨_, g, by omega, by omega, ?_⟩
      have h4 : (chkF l []).2.getD (l.length - 1) 0 = 0 := by
        by_cases hh : (chkF l []).2.getD (l.length - 1) 0 = 0
        · exact hh
        · exact absurd (Or.inr hh) h3
      have hl : l.length - 1 < (chkF l []).2.length := by rw [g.1]; omega
      rw [List.getD_eq_getElem?_getD, List.getElem?_eq_getElem hl] at h4
      rw [List.getElem?_eq_getElem hl]
      simpa using h4
  · rw [if_pos h2] at h
    exact absurd h h2

theorem chk_of_good {l : List Nd} {bs : List Nat} (h : Good l bs) (h1 : l.length ≤ 40) (h2 : 0 < l.length) (h3 : bs[l.length - 1]? = some 0) : chkE l = 0 := by
  have e := good_chkF l [] bs (by simpa using h)
  simp only [List.length_nil, List.take_zero] at e
  unfold chkE
  rw [if_neg (by omega), e]
  simp only [ne_eq, not_true_eq_false, if_false]
  rw [if_neg]
  rw [List.getD_eq_getElem?_getD, h3]
  simp; intro hh; subst hh; simp at h2

theorem stepB_some {bs : List Nat} {b c : Nat} {p : Int} (h : stepB bs b p = some c) : 0 < b ∧ p = (b : Int) - 1 ∧ c = bs.getD (b - 1) 0 := by
  unfold stepB at h
  by_cases hc : b = 0 ∨ p ≠ (b : Int) - 1
  · simp [hc] at h
  · rw [if_neg hc] at h
    simp only [Option.some.injEq] at h
    exact ⟨by omega, by omega, h.symm⟩

theorem getD_take (bs : List Nat) (i j : Nat) (h : j < i) : (bs.take i).getD j 0 = bs.getD j 0 := by
  rw [List.getD_eq_getElem?_getD, List.getD_eq_getElem?_getD, List.getElem?_take_of_lt h]

/-- what is so at each node -/
theorem good_at {l : List Nd} {bs : List Nat} (h : Good l bs) {i : Nat} {n : Nd} (hi : l[i]? = some n) :
    okN n = 0 ∧ 0 ≤ ar n.op ∧
    (ar n.op = 0 → bs.getD i 0 = i) ∧
    (ar n.op = 1 → 0 < i ∧ n.x = (i : Int) - 1 ∧ bs.getD i 0 = bs.getD (i - 1) 0) ∧
    (ar n.op = 2 → 0 < i ∧ n.y = (i : Int) - 1 ∧ 0 < bs.getD (i - 1) 0 ∧ n.x = (bs.getD (i - 1) 0 : Int) - 1 ∧ bs.getD i 0 = (bs.take i).getD (bs.getD (i - 1) 0 - 1) 0) := by
  have hl := (List.getElem?_eq_some_iff.1 hi).1
  obtain ⟨h0, b, h1, h2⟩ := h.2 i n hi
  have hb : bs.getD i 0 = b := by rw [List.getD_eq_getElem?_getD, h1]; rfl
  have hlen : (bs.take i).length = i := by rw [List.length_take, h.1]; omega
  have ha : 0 ≤ ar n.op := by
    unfold okN at h0
    by_cases hh : badN n
    · simp [hh] at h0
    · unfold badN at hh
      omega
  unfold begN at h2
  refine ⟨h0, ha, fun a => ?_, fun a => ?_, fun a => ?_⟩
  · rw [if_neg (by omega), if_neg (by omega), hlen] at h2
    simp at h2
    rw [hb]; exact h2.symm
  · rw [if_pos a, hlen] at h2
    obtain ⟨c1, c2, c3⟩ := stepB_some h2
    exact ⟨c1, c2, by rw [hb, c3, getD_take _ _ _ (by omega)]⟩
  · rw [if_neg (by omega), if_pos a, hlen] at h2
    cases hs : stepB (bs.take i) i n.y with
    | none => rw [hs] at h2; simp at h2
    | some c =>
      rw [hs] at h2
      simp at h2
      obtain ⟨c1, c2, c3⟩ := stepB_some hs
      obtain ⟨d1, d2, d3⟩ := stepB_some h2
      rw [getD_take _ _ _ (by omega)] at c3
      subst c3
      exact ⟨c1, c2, d1, d2, by rw [hb, d3]⟩

theorem good_le {l : List Nd} {bs : List Nat} (h : Good l bs) : ∀ (i : Nat), i < l.length → bs.getD i 0 ≤ i := by
  intro i
  induction i using Nat.strongRecOn with
  | ind i ih =>
    intro hi
    obtain ⟨-, a0, a1, a2, a3⟩ := good_at h (List.getElem?_eq_getElem hi)
    have := ar_le l[i].op
    rcases (by omega : ar l[i].op = 0 ∨ ar l[i].op = 1 ∨ ar l[i].op = 2) with e | e | e
    · rw [a1 e]; exact Nat.le_refl _
    · obtain ⟨b1, -, b2⟩ := a2 e
      rw [b2]
      have := ih (i - 1) (by omega) (by omega)
      omega
    · obtain ⟨b1, -, b2, -, b4⟩ := a3 e
      have c := ih (i - 1) (by omega) (by omega)
      rw [b4, getD_take _ _ _ (by omega)]
      have := ih (bs.getD (i - 1) 0 - 1) (by omega) (by omega)
      omega

/-- parts are ahead -/
theorem good_part {l : List Nd} {bs : List Nat} (h : Good l bs) {i : Nat} {n : Nd} (hi : l[i]? = some n) :
    (1 ≤ ar n.op → 0 ≤ n.x ∧ n.x < i ∧ bs.getD n.x.toNat 0 = bs.getD i 0) ∧ (ar n.op = 2 → n.y = (i : Int) - 1 ∧ 0 < i ∧ (bs.getD (i - 1) 0 : Int) = n.x + 1) := by
  have hl := (List.getElem?_eq_some_iff.1 hi).1
  obtain ⟨-, a0, a1, a2, a3⟩ := good_at h hi
  have hle := good_le h
  have := ar_le n.op
  refine ⟨fun a => ?_, fun a => ?_⟩
  · rcases (by omega : ar n.op = 1 ∨ ar n.op = 2) with e | e
    · obtain ⟨b1, b2, b3⟩ := a2 e
      refine ⟨by omega, by omega, ?_⟩
      rw [b3, b2]
      congr 1
      omega
    · obtain ⟨b1, b2, b3, b4, b5⟩ := a3 e
      have c := hle (i - 1) (by omega)
      refine ⟨by omega, by omega, ?_⟩
      rw [b5, getD_take _ _ _ (by omega), b4]
      congr 1
      omega
  · obtain ⟨b1, b2, b3, b4, b5⟩ := a3 a
    exact ⟨b2, b1, by omega⟩

/-- what lies within what ends at i begins there -/
theorem good_in {l : List Nd} {bs : List Nat} (h : Good l bs) : ∀ (i : Nat), i < l.length → ∀ j, bs.getD i 0 ≤ j → j ≤ i → bs.getD i 0 ≤ bs.getD j 0 := by
  intro i
  induction i using Nat.strongRecOn with
  | ind i ih =>
    intro hi j h1 h2
    by_cases hji : j = i
    · subst hji; exact Nat.le_refl _
    obtain ⟨-, a0, a1, a2, a3⟩ := good_at h (List.getElem?_eq_getElem hi)
    have hle := good_le h
    have := ar_le l[i].op
    rcases (by omega : ar l[i].op = 0 ∨ ar l[i].op = 1 ∨ ar l[i].op = 2) with e | e | e
    · have := a1 e; omega
    · obtain ⟨b1, -, b2⟩ := a2 e
      rw [b2] at h1 ⊢
      exact ih (i - 1) (by omega) (by omega) j h1 (by omega)
    · obtain ⟨b1, -, b2, -, b4⟩ := a3 e
      have c := hle (i - 1) (by omega)
      rw [getD_take _ _ _ (by omega)] at b4
      have d := hle (bs.getD (i - 1) 0 - 1) (by omega)
      by_cases hj : bs.getD (i - 1) 0 ≤ j
      · have := ih (i - 1) (by omega) (by omega) j hj (by omega)
        omega
      · rw [b4] at h1 ⊢
        exact ih (bs.getD (i - 1) 0 - 1) (by omega) (by omega) j h1 (by omega)

/-- a node whose parts are so much farther back -/
def mv (by_ : Int) (n : Nd) : Nd := if ar n.op = 1 then { n with x := n.x + by_ } else if ar n.op = 2 then { n with x := n.x + by_, y := n.y + by_ } else n

theorem mv_op (c : Int) (n : Nd) : (mv c n).op = n.op := by unfold mv; repeat' split
                                                            all_goals rfl
theorem mv_zero (n : Nd) : mv 0 n = n := by unfold mv; repeat' split
                                            all_goals simp
theorem mv_mv (a b : Int) (n : Nd) : mv a (mv b n) = mv (b + a) n := by
  unfold mv
  by_cases h1 : ar n.op = 1
  · simp [h1]; omega
  · by_cases h2 : ar n.op = 2
    · simp [h2]; omega
    · simp [h1, h2]
theorem map_mv_zero (l : List Nd) : l.map (mv 0) = l := by
  induction l with
  | nil => rfl
  | cons a l ih => simp [mv_zero, ih]
theorem map_mv_mv (a b : Int) (l : List Nd) : (l.map (mv b)).map (mv a) = l.map (mv (b + a)) := by
  simp [List.map_map, Function.comp_def, mv_mv]

theorem mv_ok (c : Int) (n : Nd) : okN (mv c n) = okN n := by
  unfold mv
  by_cases h1 : ar n.op = 1
  · simp [h1, okN, badN]
  · by_cases h2 : ar n.op = 2
    · simp [h2, okN, badN]
    · simp [h1, h2]

theorem stepB_mv (B bs : List Nat) (b : Nat) (p : Int) (hb : b ≤ bs.length) (h : ∃ c, stepB bs b p = some c) :
    stepB (B ++ bs.map (· + B.length)) (b + B.length) (p + B.length) = (stepB bs b p).map (· + B.length) := by
  obtain ⟨c, h⟩ := h
  obtain ⟨c1, c2, c3⟩ := stepB_some h
  rw [h]
  unfold stepB
  rw [if_neg (by omega)]
  simp only [Option.map_some, Option.some.injEq]
  rw [c3, List.getD_eq_getElem?_getD, List.getD_eq_getElem?_getD, List.getElem?_append_right (by omega), show b + B.length - 1 - B.length = b - 1 from by omega, List.getElem?_map, List.getElem?_eq_getElem (by omega)]
  rfl

/-- behind others it is as it was, so much farther back -/
theorem begN_mv (B bs : List Nat) (n : Nd) (c : Nat) (hle : ∀ j, j < bs.length → bs.getD j 0 ≤ j) (h : begN n bs = some c) : begN (mv B.length n) (B ++ bs.map (· + B.length)) = some (c + B.length) := by
  have hop := mv_op B.length n
  have hlen : (B ++ bs.map (· + B.length)).length = bs.length + B.length := by simp; omega
  unfold begN at h ⊢
  rw [hop, hlen]
  by_cases h1 : ar n.op = 1
  · rw [if_pos h1] at h ⊢
    have e : (mv B.length n).x = n.x + B.length := by unfold mv; rw [if_pos h1]
    rw [e, stepB_mv B bs _ _ (Nat.le_refl _) ⟨c, h⟩, h]
    rfl
  · rw [if_neg h1] at h ⊢
    by_cases h2 : ar n.op = 2
    · rw [if_pos h2] at h ⊢
      have e : (mv B.length n).x = n.x + B.length := by unfold mv; rw [if_neg h1, if_pos h2]
      have e' : (mv B.length n).y = n.y + B.length := by unfold mv; rw [if_neg h1, if_pos h2]
      cases hs : stepB bs bs.length n.y with
      | none => rw [hs] at h; simp at h
      | some d =>
        rw [hs] at h
        simp at h
        rw [e, e', stepB_mv B bs _ _ (Nat.le_refl _) ⟨d, hs⟩, hs]
        simp only [Option.map_some, Option.bind_some]
        obtain ⟨c1, c2, c3⟩ := stepB_some hs
        have hd : d ≤ bs.length := by
          have := hle (bs.length - 1) (by omega)
          omega
        rw [stepB_mv B bs d _ hd ⟨c, h⟩, h]
        rfl
    · rw [if_neg h2] at h ⊢
      simp at h
      simp [h]

theorem good_join {l m : List Nd} {bl bm : List Nat} (h1 : Good l bl) (h2 : Good m bm) : Good (l ++ m.map (mv l.length)) (bl ++ bm.map (· + l.length)) := by
  refine ⟨by simp [h1.1, h2.1], fun i n hi => ?_⟩
  by_cases hl : i < l.length
  · rw [List.getElem?_append_left hl] at hi
    obtain ⟨a1, c, a2, a3⟩ := h1.2 i n hi
    exact ⟨a1, c, by rw [List.getElem?_append_left (by rw [h1.1]; exact hl), a2], by rw [List.take_append_of_le_length (by rw [h1.1]; omega), a3]⟩
  · rw [List.getElem?_append_right (by omega), List.getElem?_map] at hi
    cases hm : m[i - l.length]? with
    | none => rw [hm] at hi; simp at hi
    | some n' =>
      rw [hm] at hi
      simp at hi
      subst hi
      obtain ⟨a1, c, a2, a3⟩ := h2.2 _ n' hm
      have hlm := (List.getElem?_eq_some_iff.1 hm).1
      refine ⟨by rw [mv_ok, a1], c + l.length, by rw [List.getElem?_append_right (by rw [h1.1]; omega), h1.1, List.getElem?_map, a2]; rfl, ?_⟩
      rw [List.take_append, List.take_of_length_le (by rw [h1.1]; omega), h1.1, ← List.map_take]
      have := begN_mv bl (bm.take (i - l.length)) n' c (fun j hj => by
        have hj' : j < i - l.length := by
          have := List.length_take_le (i - l.length) bm
          omega
        rw [getD_take _ _ _ hj']
        exact good_le h2 j (by omega)) a3
      rw [h1.1] at this
      exact this

/-- what ends at i, by itself -/
theorem good_cut {l : List Nd} {bs : List Nat} (h : Good l bs) (e : Nat) (he : e < l.length) :
    Good (((l.take (e + 1)).drop (bs.getD e 0)).map (mv (-(bs.getD e 0 : Int)))) (((bs.take (e + 1)).drop (bs.getD e 0)).map (· - bs.getD e 0)) := by
  have hle := good_le h
  have hin := good_in h e he
  have hb := hle e he
  generalize hB : bs.getD e 0 = b at *
  refine ⟨by simp [h.1], fun i n hi => ?_⟩
  rw [List.getElem?_map, List.getElem?_drop] at hi
  have hlt : b + i < e + 1 := by
    by_cases hh : b + i < e + 1
    · exact hh
    · rw [List.getElem?_eq_none (by simp; omega)] at hi
      simp at hi
  rw [List.getElem?_take_of_lt hlt] at hi
  cases hm : l[b + i]? with
  | none => rw [hm] at hi; simp at hi
  | some n' =>
    rw [hm] at hi
    simp at hi
    subst hi
    obtain ⟨a1, c, a2, a3⟩ := h.2 _ n' hm
    obtain ⟨g0, ga, g1, g2, g3⟩ := good_at h hm
    have hc : bs.getD (b + i) 0 = c := by rw [List.getD_eq_getElem?_getD, a2]; rfl
    have hcb : b ≤ c := by rw [← hc]; exact hin (b + i) (by omega) (by omega)
    have hci : c ≤ b + i := by rw [← hc]; exact hle (b + i) (by omega)
    have hla : (bs.take (e + 1)).length = e + 1 := by rw [List.length_take, h.1]; omega
    have htk : ((((bs.take (e + 1)).drop b).map (· - b)).take i) = ((bs.take (b + i)).drop b).map (· - b) := by
      rw [← List.map_take, List.take_drop, List.take_take, Nat.min_eq_left (by omega)]
    have hgd : ∀ j, b + j < b + i → (((bs.take (b + i)).drop b).map (· - b)).getD j 0 = bs.getD (b + j) 0 - b := by
      intro j hj
      rw [List.getD_eq_getElem?_getD, List.getD_eq_getElem?_getD, List.getElem?_map, List.getElem?_drop, List.getElem?_take_of_lt hj, List.getElem?_eq_getElem (by rw [h.1]; omega)]
      rfl
    have hlen : (((bs.take (b + i)).drop b).map (· - b)).length = i := by simp [h.1]; omega
    refine ⟨by rw [mv_ok, a1], c - b, by rw [List.getElem?_map, List.getElem?_drop, List.getElem?_take_of_lt hlt, a2]; rfl, ?_⟩
    rw [htk]
    have hop := mv_op (-(b : Int)) n'
    have := ar_le n'.op
    unfold begN
    rw [hop, hlen]
    rcases (by omega : ar n'.op = 0 ∨ ar n'.op = 1 ∨ ar n'.op = 2) with q | q | q
    · rw [if_neg (by omega), if_neg (by omega)]
      have := g1 q
      congr 1
      omega
    · obtain ⟨c1, c2, c3⟩ := g2 q
      rw [if_pos q]
      have e1 : (mv (-(b : Int)) n').x = n'.x + -(b : Int) := by unfold mv; rw [if_pos q]
      have hi0 : 0 < i := by
        by_cases hh : 0 < i
        · exact hh
        · have : i = 0 := by omega
          subst this
          have h5 := hle (b - 1) (by omega)
          rw [Nat.add_zero] at c3 hc
          omega
      unfold stepB
      rw [if_neg (by omega), hgd (i - 1) (by omega)]
      congr 1
      rw [show b + (i - 1) = b + i - 1 from by omega, ← c3, hc]
    · obtain ⟨c1, c2, c3, c4, c5⟩ := g3 q
      rw [if_neg (by omega), if_pos q]
      have e1 : (mv (-(b : Int)) n').x = n'.x + -(b : Int) := by unfold mv; rw [if_neg (by omega), if_pos q]
      have e2 : (mv (-(b : Int)) n').y = n'.y + -(b : Int) := by unfold mv; rw [if_neg (by omega), if_pos q]
      have h6 := hle (b + i - 1) (by omega)
      rw [getD_take _ _ _ (by omega)] at c5
      have h7 := hle (bs.getD (b + i - 1) 0 - 1) (by omega)
      have hi0 : 0 < i := by
        by_cases hh : 0 < i
        · exact hh
        · have : i = 0 := by omega
          subst this
          rw [Nat.add_zero] at *
          omega
      have s1 : stepB (((bs.take (b + i)).drop b).map (· - b)) i (mv (-(b : Int)) n').y = some (bs.getD (b + i - 1) 0 - b) := by
        unfold stepB
        rw [if_neg (by omega), hgd (i - 1) (by omega), show b + (i - 1) = b + i - 1 from by omega]
      rw [s1]
      simp only [Option.bind_some]
      have h8 : b ≤ bs.getD (b + i - 1) 0 - 1 := by omega
      unfold stepB
      rw [if_neg (by omega), hgd (bs.getD (b + i - 1) 0 - b - 1) (by omega)]
      congr 1
      rw [show b + (bs.getD (b + i - 1) 0 - b - 1) = bs.getD (b + i - 1) 0 - 1 from by omega, ← c5, hc]

/-- the value at a place; nothing where there is none -/
def nth (vs : List V2) (at_ : Int) : V2 := if at_ < 0 ∨ (vs.length : Int) ≤ at_ then (0, 0) else vs.getD at_.toNat (0, 0)
/-- a node's value: O: what is done with one, or two; ev: what the event has -/
def evN (O : Int → V2 → V2 → V2) (ev : List V2) (n : Nd) (vs : List V2) : V2 :=
  if n.op = 1 then (n.k, n.v) else if n.op = 2 then nth ev n.n else if ar n.op = 1 then O n.op (nth vs n.x) (0, 0) else O n.op (nth vs n.x) (nth vs n.y)
def evF (O : Int → V2 → V2 → V2) (ev : List V2) : List Nd → List V2 → List V2
  | [], vs => vs
  | n :: l, vs => evF O ev l (vs ++ [evN O ev n vs])
def evL (O : Int → V2 → V2 → V2) (ev : List V2) (l : List Nd) : V2 := nth (evF O ev l []) ((l.length : Int) - 1)

theorem evF_app (O : Int → V2 → V2 → V2) (ev : List V2) : ∀ (l m : List Nd) (vs : List V2), evF O ev (l ++ m) vs = evF O ev m (evF O ev l vs)
  | [], m, vs => rfl
  | n :: l, m, vs => by simp only [List.cons_append, evF]; exact evF_app O ev l m _
theorem evF_len (O : Int → V2 → V2 → V2) (ev : List V2) : ∀ (l : List Nd) (vs : List V2), (evF O ev l vs).length = vs.length + l.length
  | [], vs => rfl
  | n :: l, vs => by simp only [evF]; rw [evF_len O ev l]; simp; omega

theorem nth_app (P vs : List V2) (i : Int) (h0 : 0 ≤ i) (h1 : i < vs.length) : nth (P ++ vs) (i + P.length) = nth vs i := by
  unfold nth
  rw [if_neg (by simp; omega), if_neg (by omega), List.getD_eq_getElem?_getD, List.getD_eq_getElem?_getD, List.getElem?_append_right (by omega)]
  congr 2
  omega
theorem nth_left (P vs : List V2) (i : Int) (h0 : 0 ≤ i) (h1 : i < P.length) : nth (P ++ vs) i = nth P i := by
  unfold nth
  rw [if_neg (by simp; omega), if_neg (by omega), List.getD_eq_getElem?_getD, List.getD_eq_getElem?_getD, List.getElem?_append_left (by omega)]

theorem evN_mv (O : Int → V2 → V2 → V2) (ev : List V2) (n : Nd) (P vs : List V2) (h1 : 1 ≤ ar n.op → 0 ≤ n.x ∧ n.x < vs.length) (h2 : ar n.op = 2 → 0 ≤ n.y ∧ n.y < vs.length) (h0 : 0 ≤ ar n.op) :
    evN O ev (mv P.length n) (P ++ vs) = evN O ev n vs := by
  have hle := ar_le n.op
  rcases (by omega : ar n.op = 0 ∨ ar n.op = 1 ∨ ar n.op = 2) with e | e | e
  · have : mv P.length n = n := by unfold mv; rw [if_neg (by omega), if_neg (by omega)]
    rw [this]
    have : n.op = 1 ∨ n.op = 2 := by
      unfold ar at e
      by_cases h : n.op = 1 ∨ n.op = 2
      · exact h
      · rw [if_neg h] at e
        repeat' split at e
        all_goals omega
    unfold evN
    by_cases h : n.op = 1
    · rw [if_pos h, if_pos h]
    · rw [if_neg h, if_pos (by omega), if_neg h, if_pos (by omega)]
  · have n1 : n.op ≠ 1 := by intro h; rw [h] at e; exact absurd e (by decide)
    have n2 : n.op ≠ 2 := by intro h; rw [h] at e; exact absurd e (by decide)
    have : mv P.length n = { n with x := n.x + P.length } := by unfold mv; rw [if_pos e]
    rw [this]
    unfold evN
    simp only [n1, n2, e, if_true, if_false]
    rw [nth_app P vs n.x (h1 (by omega)).1 (h1 (by omega)).2]
  · have n1 : n.op ≠ 1 := by intro h; rw [h] at e; exact absurd e (by decide)
    have n2 : n.op ≠ 2 := by intro h; rw [h] at e; exact absurd e (by decide)
    have n3 : ¬ (ar n.op = 1) := by omega
    have : mv P.length n = { n with x := n.x + P.length, y := n.y + P.length } := by unfold mv; rw [if_neg n3, if_pos e]
    rw [this]
    unfold evN
    simp only [n1, n2, n3, if_false]
    rw [nth_app P vs n.x (h1 (by omega)).1 (h1 (by omega)).2, nth_app P vs n.y (h2 e).1 (h2 e).2]

theorem evF_mv (O : Int → V2 → V2 → V2) (ev : List V2) (P : List V2) : ∀ (m pre : List Nd) (bs : List Nat) (vs : List V2), Good (pre ++ m) bs → vs.length = pre.length → evF O ev (m.map (mv P.length)) (P ++ vs) = P ++ evF O ev m vs
  | [], pre, bs, vs, h, hl => rfl
  | n :: m, pre, bs, vs, h, hl => by
    have hi : (pre ++ n :: m)[pre.length]? = some n := by simp
    obtain ⟨p1, p2⟩ := good_part h hi
    obtain ⟨-, a0, -⟩ := good_at h hi
    simp only [List.map_cons, evF]
    rw [evN_mv O ev n P vs (fun a => ⟨(p1 a).1, by rw [hl]; exact (p1 a).2.1⟩) (fun a => ⟨by have := p2 a; omega, by have := p2 a; omega⟩) a0, List.append_assoc]
    exact evF_mv O ev P m (pre ++ [n]) bs (vs ++ [evN O ev n vs]) (by simpa using h) (by simp [hl])

/-- what Join makes -/
def joinL (op : Int) (l m : List Nd) : List Nd := l ++ m.map (mv l.length) ++ [⟨op, (l.length : Int) - 1, (l.length : Int) + m.length - 1, 0, 0, 0⟩]
def join1 (op : Int) (l : List Nd) : List Nd := l ++ [⟨op, (l.length : Int) - 1, 0, 0, 0, 0⟩]

theorem ar_12 {op : Int} (h : 1 ≤ ar op) : op ≠ 1 ∧ op ≠ 2 := by
  constructor <;> (intro e; rw [e] at h; exact absurd h (by decide))

theorem nth_last (vs : List V2) (v : V2) : nth (vs ++ [v]) ((vs.length + 1 : Nat) - 1 : Int) = v := by
  unfold nth
  rw [if_neg (by simp; omega), List.getD_eq_getElem?_getD, show ((vs.length + 1 : Nat) - 1 : Int).toNat = vs.length from by omega]
  simp

theorem ev_join (O : Int → V2 → V2 → V2) (ev : List V2) (op : Int) (l m : List Nd) (bm : List Nat) (hm : Good m bm) (h0 : 0 < l.length) (h1 : 0 < m.length) (ho : ar op = 2) :
    evL O ev (joinL op l m) = O op (evL O ev l) (evL O ev m) := by
  obtain ⟨n1, n2⟩ := ar_12 (by omega : 1 ≤ ar op)
  have e1 := evF_mv O ev (evF O ev l []) m [] bm [] (by simpa using hm) rfl
  rw [evF_len] at e1
  simp only [List.length_nil, Nat.zero_add, List.append_nil] at e1
  unfold evL joinL
  rw [evF_app, evF_app, e1]
  simp only [evF]
  have hlen : (l ++ m.map (mv l.length) ++ [(⟨op, (l.length : Int) - 1, (l.length : Int) + m.length - 1, 0, 0, 0⟩ : Nd)]).length = (evF O ev l [] ++ evF O ev m []).length + 1 := by simp [evF_len]; omega
  rw [hlen, nth_last]
  unfold evN
  rw [if_neg n1, if_neg n2, if_neg (by rw [ho]; decide)]
  simp only
  rw [nth_left _ _ _ (by omega) (by rw [evF_len]; simp; omega)]
  have := nth_app (evF O ev l []) (evF O ev m []) ((m.length : Int) - 1) (by omega) (by rw [evF_len]; simp; omega)
  rw [evF_len O ev l] at this
  simp only [List.length_nil, Nat.zero_add] at this
  rw [show (l.length : Int) + m.length - 1 = (m.length : Int) - 1 + l.length from by omega, this]

theorem ev_join1 (O : Int → V2 → V2 → V2) (ev : List V2) (op : Int) (l : List Nd) (ho : ar op = 1) :
    evL O ev (join1 op l) = O op (evL O ev l) (0, 0) := by
  obtain ⟨n1, n2⟩ := ar_12 (by omega : 1 ≤ ar op)
  unfold evL join1
  rw [evF_app]
  simp only [evF]
  have hlen : (l ++ [(⟨op, (l.length : Int) - 1, 0, 0, 0, 0⟩ : Nd)]).length = (evF O ev l []).length + 1 := by simp [evF_len]
  rw [hlen, nth_last]
  unfold evN
  rw [if_neg n1, if_neg n2, if_pos ho]

theorem okN_new (op x y : Int) (h : ar op = 2) : okN ⟨op, x, y, 0, 0, 0⟩ = 0 := by
  have h1 := ar_12 (by omega : 1 ≤ ar op)
  have hb : ¬ badN ⟨op, x, y, 0, 0, 0⟩ := by unfold badN; simp [h1.1, h1.2, h]
  unfold okN
  rw [if_neg hb]
  rfl
theorem okN_new1 (op x : Int) (h : ar op = 1) : okN ⟨op, x, 0, 0, 0, 0⟩ = 0 := by
  have h1 := ar_12 (by omega : 1 ≤ ar op)
  have hb : ¬ badN ⟨op, x, 0, 0, 0, 0⟩ := by unfold badN; simp [h1.1, h1.2, h]
  unfold okN
  rw [if_neg hb]
  rfl

theorem getD_of {bs : List Nat} {i b : Nat} (h : bs[i]? = some b) : bs.getD i 0 = b := by rw [List.getD_eq_getElem?_getD, h]; rfl

/-- what is put together is good, and begins at 0 -/
theorem good_joinL {op : Int} {l m : List Nd} {bl bm : List Nat} (hl : Good l bl) (hm : Good m bm) (h0 : 0 < l.length) (h1 : 0 < m.length) (b0 : bl[l.length - 1]? = some 0) (b1 : bm[m.length - 1]? = some 0) (ho : ar op = 2) :
    Good (joinL op l m) (bl ++ bm.map (· + l.length) ++ [0]) := by
  refine good_snoc (good_join hl hm) (okN_new _ _ _ ho) ?_
  unfold begN
  simp only
  rw [if_neg (by omega), if_pos ho]
  have hlen : (bl ++ bm.map (· + l.length)).length = l.length + m.length := by simp [hl.1, hm.1]
  rw [hlen]
  have s1 : stepB (bl ++ bm.map (· + l.length)) (l.length + m.length) ((l.length : Int) + m.length - 1) = some l.length := by
    unfold stepB
    rw [if_neg (by omega)]
    congr 1
    rw [List.getD_eq_getElem?_getD, List.getElem?_append_right (by rw [hl.1]; omega), hl.1, List.getElem?_map, show l.length + m.length - 1 - l.length = m.length - 1 from by omega, b1]
    simp
  rw [s1]
  simp only [Option.bind_some]
  unfold stepB
  rw [if_neg (by omega)]
  congr 1
  rw [List.getD_eq_getElem?_getD, List.getElem?_append_left (by rw [hl.1]; omega), b0]
  rfl

theorem good_join1 {op : Int} {l : List Nd} {bl : List Nat} (hl : Good l bl) (h0 : 0 < l.length) (b0 : bl[l.length - 1]? = some 0) (ho : ar op = 1) :
    Good (join1 op l) (bl ++ [0]) := by
  refine good_snoc hl (okN_new1 _ _ ho) ?_
  unfold begN
  simp only
  rw [if_pos ho, hl.1]
  unfold stepB
  rw [if_neg (by omega)]
  congr 1
  exact getD_of b0

/-- what Cut tells -/
def cutL (l : List Nd) (b e : Nat) : List Nd := ((l.take (e + 1)).drop b).map (mv (-(b : Int)))

theorem cut_left (op : Int) (l m : List Nd) (h0 : 0 < l.length) : cutL (joinL op l m) 0 (l.length - 1) = l := by
  unfold cutL joinL
  rw [show l.length - 1 + 1 = l.length from by omega, List.append_assoc, List.take_left' rfl]
  simp [map_mv_zero]
theorem cut_right (op : Int) (l m : List Nd) (h0 : 0 < m.length) : cutL (joinL op l m) l.length (l.length + m.length - 1) = m := by
  unfold cutL joinL
  rw [show l.length + m.length - 1 + 1 = l.length + m.length from by omega, List.take_left' (by simp), List.drop_left' rfl, map_mv_mv]
  have : (l.length : Int) + -(l.length : Int) = 0 := by omega
  rw [this, map_mv_zero]
end Go.Proofs.YteaanpdckkmjoaaGreatDoor
/- Plain facts on lists of nodes: the document's own test of an expression, and its types, come to what package expr says. Conditions: none. -/
namespace Go.Proofs.YteaanpdckkmjoaaGreatDoor

/-- the stack of the document's test, last one first: where the expressions end that stand next to each other up to e -/
def Stk (bs : List Nat) : List Nat → Nat → Prop
  | [], e => e = 0
  | r :: rs, e => e = r + 1 ∧ Stk bs rs (bs.getD r 0)

/-- the document's loop: the error, or the stack (last one first) -/
def fltF : Nat → List Nd → List Nat → Int × List Nat
  | _, [], st => (0, st)
  | i, n :: l, st => if okN n ≠ 0 then (okN n, st) else
    if ar n.op = 0 then fltF (i + 1) l (i :: st)
    else if ar n.op = 1 then match st with
      | r :: rs => if (r : Int) = n.x then fltF (i + 1) l (i :: rs) else (3, st)
      | _ => (3, st)
    else match st with
      | r :: q :: rs => if (q : Int) = n.x ∧ (r : Int) = n.y then fltF (i + 1) l (i :: rs) else (3, st)
      | _ => (3, st)
/-- what the document's test says -/
def fltE (l : List Nd) : Int := if 40 < l.length then 2 else if (fltF 0 l []).1 ≠ 0 then (fltF 0 l []).1 else if (fltF 0 l []).2.length ≠ 1 then 3 else 0

theorem stk_ext (bs : List Nat) (b : Nat) : ∀ (st : List Nat) (e : Nat), e ≤ bs.length → (∀ j, j < bs.length → bs.getD j 0 ≤ j) → Stk bs st e → Stk (bs ++ [b]) st e
  | [], e, _, _, h => h
  | r :: rs, e, he, hle, h => by
    obtain ⟨h1, h2⟩ := h
    have hr : (bs ++ [b]).getD r 0 = bs.getD r 0 := by
      rw [List.getD_eq_getElem?_getD, List.getD_eq_getElem?_getD, List.getElem?_append_left (by omega)]
    have := hle r (by omega)
    exact ⟨h1, by rw [hr]; exact stk_ext bs b rs _ (by omega) hle h2⟩

theorem okN_ar {n : Nd} (h : okN n = 0) : ar n.op = 0 ∨ ar n.op = 1 ∨ ar n.op = 2 := by
  have := ar_le n.op
  unfold okN at h
  by_cases hh : badN n
  · simp [hh] at h
  · unfold badN at hh
    omega

theorem getD_last (bs : List Nat) (b : Nat) : (bs ++ [b]).getD bs.length 0 = b := by
  rw [List.getD_eq_getElem?_getD]
  simp

theorem flt_chk : ∀ (l pre : List Nd) (bs st : List Nat), Good pre bs → Stk bs st pre.length →
    (fltF pre.length l st).1 = (chkF l bs).1 ∧ ((chkF l bs).1 = 0 → Stk (chkF l bs).2 (fltF pre.length l st).2 (pre.length + l.length))
  | [], pre, bs, st, hg, hs => ⟨rfl, fun _ => hs⟩
  | n :: l, pre, bs, st, hg, hs => by
    have hle : ∀ j, j < bs.length → bs.getD j 0 ≤ j := fun j hj => good_le hg j (by rw [← hg.1]; exact hj)
    have hlen := hg.1
    unfold fltF chkF
    by_cases h0 : okN n = 0
    · simp only [h0, ne_eq, not_true_eq_false, if_false]
      have go : ∀ (b : Nat) (rs : List Nat), begN n bs = some b → Stk bs rs b → b ≤ pre.length →
          (fltF (pre.length + 1) l (pre.length :: rs)).1 = (chkF l (bs ++ [b])).1 ∧ ((chkF l (bs ++ [b])).1 = 0 → Stk (chkF l (bs ++ [b])).2 (fltF (pre.length + 1) l (pre.length :: rs)).2 (pre.length + (n :: l).length)) := by
        intro b rs hb hst hbl
        have := flt_chk l (pre ++ [n]) (bs ++ [b]) (pre.length :: rs) (good_snoc hg h0 hb) (by
          refine ⟨by simp, ?_⟩
          rw [← hlen, getD_last]
          exact stk_ext bs b rs b (by omega) hle hst)
        simp only [List.length_append, List.length_cons, List.length_nil] at this ⊢
        rw [show pre.length + (l.length + 1) = pre.length + 1 + l.length from by omega]
        exact this
      rcases okN_ar h0 with e | e | e
      · have hb : begN n bs = some pre.length := by unfold begN; rw [if_neg (by omega), if_neg (by omega), hlen]
        rw [if_pos e, hb]
        exact go _ st hb hs (Nat.le_refl _)
      · rw [if_neg (by omega), if_pos e]
        have hb : begN n bs = stepB bs pre.length n.x := by unfold begN; rw [if_pos e, hlen]
        cases st with
        | nil =>
          have hs' : pre.length = 0 := hs
          have : begN n bs = none := by rw [hb]; unfold stepB; rw [if_pos (Or.inl hs')]
          rw [this]
          simp
        | cons r rs =>
          obtain ⟨h1, h2⟩ := hs
          have hr := hle r (by omega)
          by_cases hx : (r : Int) = n.x
          · have : begN n bs = some (bs.getD r 0) := by rw [hb]; unfold stepB; rw [if_neg (by omega), h1]; rfl
            rw [this]
            simp only [hx, if_true]
            exact go _ rs this h2 (by omega)
          · have : begN n bs = none := by rw [hb]; unfold stepB; rw [if_pos (by omega)]
            rw [this]
            simp only [hx, if_false]
            simp
      · rw [if_neg (by omega), if_neg (by omega)]
        have hb : begN n bs = (stepB bs pre.length n.y).bind (fun b => stepB bs b n.x) := by unfold begN; rw [if_neg (by omega), if_pos e, hlen]
        cases st with
        | nil =>
          have hs' : pre.length = 0 := hs
          have : begN n bs = none := by rw [hb]; unfold stepB; rw [if_pos (Or.inl hs')]; rfl
          rw [this]
          simp
        | cons r rs =>
          obtain ⟨h1, h2⟩ := hs
          have hr := hle r (by omega)
          by_cases hy : (r : Int) = n.y
          · have s1 : stepB bs pre.length n.y = some (bs.getD r 0) := by unfold stepB; rw [if_neg (by omega), h1]; rfl
            rw [s1] at hb
            simp only [Option.bind_some] at hb
            cases rs with
            | nil =>
              have h2' : bs.getD r 0 = 0 := h2
              have : begN n bs = none := by rw [hb]; unfold stepB; rw [if_pos (Or.inl h2')]
              rw [this]
              simp
            | cons q rs =>
              obtain ⟨h3, h4⟩ := h2
              have hq := hle q (by omega)
              by_cases hx : (q : Int) = n.x
              · have : begN n bs = some (bs.getD q 0) := by rw [hb]; unfold stepB; rw [if_neg (by omega), h3]; rfl
                rw [this]
                simp only [hx, hy, and_self, if_true]
                exact go _ rs this h4 (by omega)
              · have : begN n bs = none := by rw [hb]; unfold stepB; rw [if_pos (by omega)]
                rw [this]
                simp only [hx, false_and, if_false]
                simp
          · have s1 : stepB bs pre.length n.y = none := by unfold stepB; rw [if_pos (by omega)]
            rw [s1] at hb
            simp only [Option.bind_none] at hb
            rw [hb]
            cases rs with
            | nil => simp
            | cons q rs =>
              simp only [hy, and_false, if_false]
              simp
    · simp only [h0, ne_eq, not_false_eq_true, if_true]
      exact ⟨trivial, fun h => h.elim⟩

theorem stk_len (bs : List Nat) (st : List Nat) (e : Nat) (h : Stk bs st e) : st.length = 1 ↔ (0 < e ∧ bs.getD (e - 1) 0 = 0) := by
  cases st with
  | nil => have : e = 0 := h; simp [this]
  | cons r rs =>
    obtain ⟨h1, h2⟩ := h
    subst h1
    cases rs with
    | nil => have : bs.getD r 0 = 0 := h2; simp; rw [← List.getD_eq_getElem?_getD]; exact this
    | cons q rs => obtain ⟨h3, h4⟩ := h2; simp; rw [← List.getD_eq_getElem?_getD, h3]; omega

theorem fault_is (l : List Nd) : fltE l = chkE l := by
  obtain ⟨h1, h2⟩ := flt_chk l [] [] [] good_nil rfl
  simp only [List.length_nil, Nat.zero_add] at h1 h2
  unfold fltE chkE
  by_cases h : 40 < l.length
  · rw [if_pos h, if_pos h]
  · rw [if_neg h, if_neg h, h1]
    by_cases h3 : (chkF l []).1 = 0
    · have hs := stk_len _ _ _ (h2 h3)
      simp only [h3, ne_eq, not_true_eq_false, if_false]
      by_cases h4 : (fltF 0 l []).2.length = 1
      · obtain ⟨h5, h6⟩ := hs.1 h4
        have : ¬ (l.length = 0 ∨ ¬ (chkF l []).2.getD (l.length - 1) 0 = 0) := by rw [h6]; omega
        rw [if_neg this]
        simp [h4]
      · have : l.length = 0 ∨ ¬ (chkF l []).2.getD (l.length - 1) 0 = 0 := by
          by_cases h5 : l.length = 0
          · exact .inl h5
          · exact .inr fun h6 => h4 (hs.2 ⟨by omega, h6⟩)
        rw [if_pos this]
        simp [h4]
    · simp only [h3, ne_eq, not_false_eq_true, if_true]
end Go.Proofs.YteaanpdckkmjoaaGreatDoor
/- Plain facts on lists of nodes: what Type of package expr comes to, and that the document's own way down the nodes says the same. Conditions: none. -/
namespace Go.Proofs.YteaanpdckkmjoaaGreatDoor

def goes (op k : Int) : Bool := if op = 4 ∨ op = 9 ∨ op = 10 then !(k == 1) else if op = 5 then true else !(k == 2)
def kindN (n : Nd) : Int := if n.op = 1 then n.k else if n.op = 4 ∨ n.op = 5 ∨ n.op = 9 ∨ n.op = 10 ∨ n.op = 11 ∨ n.op = 12 then 2 else 1
def fitP (op : Int) (ks : List Int) (p : Int) : Bool := if p < 0 ∨ (ks.length : Int) ≤ p then false else goes op (ks.getD p.toNat 0)
def fitN (n : Nd) (ks : List Int) : Bool := if ar n.op = 1 then fitP n.op ks n.x else if ar n.op = 2 then (if fitP n.op ks n.y then fitP n.op ks n.x else false) else true
/-- the loop of Type -/
def tyF : List Nd → List Int → Option (List Int)
  | [], ks => some ks
  | n :: l, ks => if fitN n ks then tyF l (ks ++ [kindN n]) else none
/-- what Type says: the kind, the error -/
def tyE (l : List Nd) : V2 := if l.length = 0 then (0, 3) else match tyF l [] with
  | none => (0, 3)
  | some ks => (ks.getD (l.length - 1) 0, 0)

/-- the document's way down -/
def tyAt (l : List Nd) : Nat → Nat → Int × Bool
  | 0, _ => (0, false)
  | f + 1, i => match l[i]? with
    | none => (0, false)
    | some n => if n.op = 1 then (n.k, true) else if n.op = 2 then (1, true) else
      let a := tyAt l f n.x.toNat
      let b := if ar n.op = 2 then tyAt l f n.y.toNat else a
      if a.2 = false ∨ b.2 = false then (0, false) else if n.op = 5 then (2, true) else
      let want : Int := if n.op = 4 ∨ n.op = 9 ∨ n.op = 10 then 2 else 1
      if (a.1 ≠ 0 ∧ a.1 ≠ want) ∨ (b.1 ≠ 0 ∧ b.1 ≠ want) then (0, false) else (if n.op = 11 ∨ n.op = 12 then 2 else want, true)

def fitAt (l : List Nd) (j : Nat) : Prop := ∀ n, l[j]? = some n → fitN n ((l.take j).map kindN) = true

theorem tyF_yes : ∀ (l pre : List Nd), (∀ j, pre.length ≤ j → fitAt (pre ++ l) j) → tyF l (pre.map kindN) = some ((pre ++ l).map kindN)
  | [], pre, _ => by simp [tyF]
  | n :: l, pre, h => by
    have h1 := h pre.length (Nat.le_refl _) n (by simp)
    simp only [List.take_left'] at h1
    unfold tyF
    rw [if_pos h1]
    have := tyF_yes l (pre ++ [n]) (fun j hj => by
      have := h j (by simp at hj; omega)
      simpa using this)
    simpa using this
theorem tyF_no : ∀ (l pre : List Nd), (∃ j, pre.length ≤ j ∧ ¬ fitAt (pre ++ l) j) → tyF l (pre.map kindN) = none
  | [], pre, ⟨j, h1, h2⟩ => by
    exact absurd (fun n hn => by rw [List.getElem?_eq_none (by simpa using h1)] at hn; cases hn) h2
  | n :: l, pre, ⟨j, h1, h2⟩ => by
    unfold tyF
    by_cases hf : fitN n (pre.map kindN) = true
    · rw [if_pos hf]
      have := tyF_no l (pre ++ [n]) ⟨j, by
        by_cases hj : j = pre.length
        · subst hj
          exact absurd (fun m hm => by simp at hm; subst hm; simpa using hf) h2
        · simp; omega, by simpa using h2⟩
      simpa using this
    · rw [if_neg hf]

theorem okN_kind {n : Nd} (h : okN n = 0) : n.op = 1 → n.k = 0 ∨ n.k = 1 ∨ n.k = 2 := by
  intro _
  unfold okN at h
  by_cases hh : badN n
  · simp [hh] at h
  · rw [if_neg hh] at h
    by_cases h3 : n.n < 0 ∨ 4 ≤ n.n
    · simp [h3] at h
    · rw [if_neg h3] at h
      by_cases hv : vokB n.k n.v = true
      · unfold vokB at hv
        simp at hv
        omega
      · rw [if_neg hv] at h; exact absurd h (by decide)

theorem kindN_in {n : Nd} (h : okN n = 0) : kindN n = 0 ∨ kindN n = 1 ∨ kindN n = 2 := by
  unfold kindN
  by_cases h1 : n.op = 1
  · rw [if_pos h1]; exact okN_kind h h1
  · rw [if_neg h1]
    split <;> omega

theorem goes_is (op a : Int) (h : a = 0 ∨ a = 1 ∨ a = 2) (h5 : op ≠ 5) : goes op a = !decide (a ≠ 0 ∧ a ≠ (if op = 4 ∨ op = 9 ∨ op = 10 then 2 else 1)) := by
  unfold goes
  by_cases h4 : op = 4 ∨ op = 9 ∨ op = 10
  · rw [if_pos h4, if_pos h4]
    rcases h with rfl | rfl | rfl <;> decide
  · rw [if_neg h4, if_neg h4, if_neg h5]
    rcases h with rfl | rfl | rfl <;> decide

theorem kinds_at (l : List Nd) (i p : Nat) (m : Nd) (hp : p < i) (hm : l[p]? = some m) : ((l.take i).map kindN).getD p 0 = kindN m ∧ p < ((l.take i).map kindN).length := by
  have := (List.getElem?_eq_some_iff.1 hm).1
  refine ⟨?_, by simp; omega⟩
  rw [List.getD_eq_getElem?_getD, List.getElem?_map, List.getElem?_take_of_lt hp, hm]
  rfl

theorem fitP_at (l : List Nd) (i : Nat) (op p : Int) (m : Nd) (h0 : 0 ≤ p) (hp : p.toNat < i) (hm : l[p.toNat]? = some m) : fitP op ((l.take i).map kindN) p = goes op (kindN m) := by
  obtain ⟨h1, h2⟩ := kinds_at l i p.toNat m hp hm
  unfold fitP
  rw [if_neg (by omega), h1]

open Classical in
theorem tyAt_is {l : List Nd} {bs : List Nat} (h : Good l bs) : ∀ (i : Nat), i < l.length → ∀ (f : Nat) (n : Nd), i < f → l[i]? = some n → tyAt l f i = if (∀ j, bs.getD i 0 ≤ j → j ≤ i → fitAt l j) then (kindN n, true) else (0, false) := by
  intro i
  induction i using Nat.strongRecOn with
  | ind i ih =>
    intro hi f n hf hn
    obtain ⟨f, rfl⟩ : ∃ g, f = g + 1 := ⟨f - 1, by omega⟩
    obtain ⟨p1, p2⟩ := good_part h hn
    obtain ⟨ok, a0, a1, a2, a3⟩ := good_at h hn
    have hle := good_le h
    have := ar_le n.op
    have hself : (∀ j, bs.getD i 0 ≤ j → j ≤ i → fitAt l j) → fitN n ((l.take i).map kindN) = true := fun H => H i (hle i hi) (Nat.le_refl _) n hn
    unfold tyAt
    rw [hn]
    simp only
    rcases (by omega : ar n.op = 0 ∨ ar n.op = 1 ∨ ar n.op = 2) with e | e | e
    · have hfit : ∀ j, bs.getD i 0 ≤ j → j ≤ i → fitAt l j := by
        intro j h1 h2 m hm
        have hj : j = i := by have := a1 e; omega
        subst hj
        rw [hn] at hm
        cases hm
        unfold fitN
        rw [if_neg (by omega), if_neg (by omega)]
      rw [if_pos hfit]
      have : n.op = 1 ∨ n.op = 2 := by
        unfold ar at e
        by_cases hh : n.op = 1 ∨ n.op = 2
        · exact hh
        · rw [if_neg hh] at e
          repeat' split at e
          all_goals omega
      unfold kindN
      rcases this with q | q
      · simp [q]
      · simp [q]
    · obtain ⟨n1, n2⟩ := ar_12 (by omega : 1 ≤ ar n.op)
      obtain ⟨x0, x1, x2⟩ := p1 (by omega)
      have xl : n.x.toNat < l.length := by omega
      have hm := List.getElem?_eq_getElem xl
      have IH := ih n.x.toNat (by omega) xl f l[n.x.toNat] (by omega) hm
      have ne2 : ¬ (ar n.op = 2) := by omega
      obtain ⟨okm, -⟩ := good_at h hm
      have hk := kindN_in okm
      have hfp := fitP_at l i n.op n.x l[n.x.toNat] x0 (by omega) hm
      have hfn : fitN n ((l.take i).map kindN) = goes n.op (kindN l[n.x.toNat]) := by unfold fitN; rw [if_pos e, hfp]
      have hx1 : n.x.toNat + 1 = i := by have := a2 e; omega
      rw [if_neg n1, if_neg n2, if_neg ne2, IH]
      rw [x2]
      by_cases H : ∀ j, bs.getD i 0 ≤ j → j ≤ n.x.toNat → fitAt l j
      · rw [if_pos H]
        simp only [or_self, Bool.true_eq_false, if_false]
        have hall : (∀ j, bs.getD i 0 ≤ j → j ≤ i → fitAt l j) ↔ goes n.op (kindN l[n.x.toNat]) = true := by
          rw [← hfn]
          refine ⟨hself, fun hg j h1 h2 => ?_⟩
          by_cases hj : j = i
          · subst hj; intro m hm'; rw [hn] at hm'; cases hm'; exact hg
          · exact H j h1 (by omega)
        by_cases h5 : n.op = 5
        · have hg : goes n.op (kindN l[n.x.toNat]) = true := by unfold goes; rw [h5]; simp
          rw [if_pos h5, if_pos (hall.2 hg)]
          unfold kindN
          simp [h5]
        · rw [if_neg h5]
          have hgi := goes_is n.op _ hk h5
          by_cases hg : goes n.op (kindN l[n.x.toNat]) = true
          · rw [if_pos (hall.2 hg)]
            rw [hgi] at hg
            simp only [Bool.not_eq_true', decide_eq_false_iff_not] at hg
            rw [if_neg hg]
            have : n.op = 3 ∨ n.op = 4 := by
              unfold ar at e
              repeat' split at e
              all_goals omega
            unfold kindN
            rcases this with q | q <;> simp [q]
          · rw [if_neg (fun H' => hg (hall.1 H'))]
            rw [hgi] at hg
            simp only [Bool.not_eq_true', decide_eq_false_iff_not, Decidable.not_not] at hg
            rw [if_pos hg]
      · rw [if_neg H]
        simp only [or_self, if_true]
        rw [if_neg]
        exact fun H' => H fun j h1 h2 => H' j h1 (by omega)
    · obtain ⟨n1, n2⟩ := ar_12 (by omega : 1 ≤ ar n.op)
      obtain ⟨x0, x1, x2⟩ := p1 (by omega)
      obtain ⟨y0, y1, y2⟩ := p2 e
      have xl : n.x.toNat < l.length := by omega
      have yl : n.y.toNat < l.length := by omega
      have hm := List.getElem?_eq_getElem xl
      have hm' := List.getElem?_eq_getElem yl
      have IH := ih n.x.toNat (by omega) xl f l[n.x.toNat] (by omega) hm
      have IH' := ih n.y.toNat (by omega) yl f l[n.y.toNat] (by omega) hm'
      obtain ⟨okm, -⟩ := good_at h hm
      obtain ⟨okm', -⟩ := good_at h hm'
      have hk := kindN_in okm
      have hk' := kindN_in okm'
      have hfp := fitP_at l i n.op n.x l[n.x.toNat] x0 (by omega) hm
      have hfp' := fitP_at l i n.op n.y l[n.y.toNat] (by omega) (by omega) hm'
      have n5 : n.op ≠ 5 := by intro q; rw [q] at e; exact absurd e (by decide)
      have n4 : n.op ≠ 4 := by intro q; rw [q] at e; exact absurd e (by decide)
      have hyi : n.y.toNat = i - 1 := by omega
      have hbx : bs.getD n.y.toNat 0 = n.x.toNat + 1 := by rw [hyi]; omega
      have hfn : fitN n ((l.take i).map kindN) = (goes n.op (kindN l[n.y.toNat]) && goes n.op (kindN l[n.x.toNat])) := by
        unfold fitN
        rw [if_neg (by omega), if_pos e, hfp, hfp']
        cases goes n.op (kindN l[n.y.toNat]) <;> rfl
      have hxi := hle n.x.toNat xl
      rw [if_neg n1, if_neg n2, if_pos e, IH, IH', hbx, x2]
      by_cases H : ∀ j, bs.getD i 0 ≤ j → j ≤ n.x.toNat → fitAt l j
      · by_cases H2 : ∀ j, n.x.toNat + 1 ≤ j → j ≤ n.y.toNat → fitAt l j
        · rw [if_pos H, if_pos H2]
          simp only [or_self, Bool.true_eq_false, if_false]
          have hall : (∀ j, bs.getD i 0 ≤ j → j ≤ i → fitAt l j) ↔ (goes n.op (kindN l[n.y.toNat]) && goes n.op (kindN l[n.x.toNat])) = true := by
            rw [← hfn]
            refine ⟨hself, fun hg j h1 h2 => ?_⟩
            by_cases hj : j = i
            · subst hj; intro m hm'; rw [hn] at hm'; cases hm'; exact hg
            · by_cases hjx : j ≤ n.x.toNat
              · exact H j h1 hjx
              · exact H2 j (by omega) (by omega)
          rw [if_neg n5]
          have hgi := goes_is n.op _ hk n5
          have hgi' := goes_is n.op _ hk' n5
          by_cases hg : (goes n.op (kindN l[n.y.toNat]) && goes n.op (kindN l[n.x.toNat])) = true
          · rw [if_pos (hall.2 hg)]
            rw [hgi, hgi'] at hg
            simp only [Bool.and_eq_true, Bool.not_eq_true', decide_eq_false_iff_not] at hg
            rw [if_neg (fun q => q.elim hg.2 hg.1)]
            have : n.op = 6 ∨ n.op = 7 ∨ n.op = 8 ∨ n.op = 9 ∨ n.op = 10 ∨ n.op = 11 ∨ n.op = 12 := by
              unfold ar at e
              repeat' split at e
              all_goals omega
            unfold kindN
            rcases this with q | q | q | q | q | q | q <;> simp [q]
          · rw [if_neg (fun H' => hg (hall.1 H'))]
            rw [hgi, hgi'] at hg
            rw [if_pos]
            by_cases hA : kindN l[n.x.toNat] ≠ 0 ∧ kindN l[n.x.toNat] ≠ (if n.op = 4 ∨ n.op = 9 ∨ n.op = 10 then 2 else 1)
            · exact .inl hA
            · right
              by_cases hB : kindN l[n.y.toNat] ≠ 0 ∧ kindN l[n.y.toNat] ≠ (if n.op = 4 ∨ n.op = 9 ∨ n.op = 10 then 2 else 1)
              · exact hB
              · exact absurd (by simp only [decide_eq_false hA, decide_eq_false hB]; rfl) hg
        · rw [if_neg H2]
          simp only [or_true, if_true]
          rw [if_neg]
          exact fun H' => H2 fun j h1 h2 => H' j (by omega) (by omega)
      · rw [if_neg H]
        simp only [true_or, if_true]
        rw [if_neg]
        exact fun H' => H fun j h1 h2 => H' j h1 (by omega)

open Classical in
/-- both say the same of a whole expression -/
theorem type_is {l : List Nd} {bs : List Nat} (h : Good l bs) (h0 : 0 < l.length) (hb : bs.getD (l.length - 1) 0 = 0) :
    tyE l = ((tyAt l l.length (l.length - 1)).1, if (tyAt l l.length (l.length - 1)).2 then 0 else 3) := by
  have hl : l.length - 1 < l.length := by omega
  rw [tyAt_is h (l.length - 1) hl l.length _ hl (List.getElem?_eq_getElem hl), hb]
  unfold tyE
  rw [if_neg (by omega)]
  by_cases H : ∀ j, 0 ≤ j → j ≤ l.length - 1 → fitAt l j
  · rw [if_pos H]
    have := tyF_yes l [] (fun j _ => by
      simp only [List.nil_append]
      by_cases hj : j < l.length
      · exact H j (Nat.zero_le _) (by omega)
      · intro m hm
        rw [List.getElem?_eq_none (by omega)] at hm
        cases hm)
    simp only [List.map_nil, List.nil_append] at this
    rw [this]
    simp only [if_true]
    rw [List.getD_eq_getElem?_getD, List.getElem?_map, List.getElem?_eq_getElem hl]
    rfl
  · rw [if_neg H]
    have hex : ∃ j, ([] : List Nd).length ≤ j ∧ ¬ fitAt ([] ++ l) j := by
      by_cases hh : ∃ j, ([] : List Nd).length ≤ j ∧ ¬ fitAt ([] ++ l) j
      · exact hh
      · refine absurd (fun j _ _ => ?_) H
        by_cases hj : fitAt l j
        · exact hj
        · exact absurd ⟨j, Nat.zero_le _, by simpa using hj⟩ hh
    have := tyF_no l [] hex
    simp only [List.map_nil] at this
    rw [this]
    simp
end Go.Proofs.YteaanpdckkmjoaaGreatDoor
/- Expressions as trees: a list of nodes that may be is a tree, laid out; its value and its type go by the tree. Conditions: none. -/
namespace Go.Proofs.YteaanpdckkmjoaaGreatDoor
set_option linter.unusedVariables false
set_option linter.unusedSimpArgs false

inductive Ex where
  | cst (k v : Int)
  | fld (n : Int)
  | one (op : Int) (a : Ex)
  | two (op : Int) (a b : Ex)

def flat : Ex → List Nd
  | .cst k v => [⟨1, 0, 0, 0, k, v⟩]
  | .fld n => [⟨2, 0, 0, n, 0, 0⟩]
  | .one op a => join1 op (flat a)
  | .two op a b => joinL op (flat a) (flat b)
def Wf : Ex → Prop
  | .cst k v => vokB k v = true
  | .fld n => 0 ≤ n ∧ n < 4
  | .one op a => ar op = 1 ∧ Wf a
  | .two op a b => ar op = 2 ∧ Wf a ∧ Wf b

theorem flat_pos : ∀ t : Ex, 0 < (flat t).length
  | .cst k v => by simp [flat]
  | .fld n => by simp [flat]
  | .one op a => by simp [flat, join1]
  | .two op a b => by simp [flat, joinL]; omega

/-- a tree, laid out, may be -/
theorem flat_good : ∀ t : Ex, Wf t → ∃ bs, Good (flat t) bs ∧ bs[(flat t).length - 1]? = some 0
  | .cst k v, h => by
    have h' : vokB k v = true := h
    refine ⟨[0], good_snoc (l := []) (bs := []) (b := 0) good_nil ?_ ?_, rfl⟩
    · have hb : ¬ badN ⟨1, 0, 0, 0, k, v⟩ := by unfold badN; simp [ar]
      unfold okN
      rw [if_neg hb]
      simp [h']
    · simp [begN, ar]
  | .fld n, h => by
    have h' : 0 ≤ n ∧ n < 4 := h
    refine ⟨[0], good_snoc (l := []) (bs := []) (b := 0) good_nil ?_ ?_, rfl⟩
    · have hb : ¬ badN ⟨2, 0, 0, n, 0, 0⟩ := by unfold badN; simp [ar]
      unfold okN
      rw [if_neg hb, if_neg (by simp; omega)]
      simp [vokB]
    · simp [begN, ar]
  | .one op a, h => by
    obtain ⟨h1, h2⟩ : ar op = 1 ∧ Wf a := h
    obtain ⟨bs, hg, hb⟩ := flat_good a h2
    refine ⟨bs ++ [0], good_join1 hg (flat_pos a) hb h1, ?_⟩
    have : (flat (.one op a)).length - 1 = bs.length := by rw [hg.1]; simp [flat, join1]
    rw [this, List.getElem?_append_right (Nat.le_refl _)]
    simp
  | .two op a b, h => by
    obtain ⟨h1, h2, h3⟩ : ar op = 2 ∧ Wf a ∧ Wf b := h
    obtain ⟨ba, ga, ea⟩ := flat_good a h2
    obtain ⟨bb, gb, eb⟩ := flat_good b h3
    refine ⟨ba ++ bb.map (· + (flat a).length) ++ [0], good_joinL ga gb (flat_pos a) (flat_pos b) ea eb h1, ?_⟩
    have : (flat (.two op a b)).length - 1 = (ba ++ bb.map (· + (flat a).length)).length := by rw [List.length_append, List.length_map, ga.1, gb.1]; simp [flat, joinL]
    rw [this, List.getElem?_append_right (Nat.le_refl _)]
    simp

theorem okN_one {n : Nd} (h : okN n = 0) (ha : ar n.op = 1) : n = ⟨n.op, n.x, 0, 0, 0, 0⟩ := by
  unfold okN at h
  by_cases hh : badN n
  · simp [hh] at h
  · have h1 : n.op ≠ 1 ∧ n.op ≠ 2 := ar_12 (by omega)
    unfold badN at hh
    obtain ⟨op, x, y, m, k, v⟩ := n
    simp only [not_or, not_and, Decidable.not_not] at hh ha h1
    obtain ⟨-, h2, h3, h4, -⟩ := hh
    obtain ⟨rfl, rfl⟩ : k = 0 ∧ v = 0 := Decidable.byContradiction (fun hc => h2 h1.1 (fun a b => hc ⟨a, b⟩))
    obtain rfl := h3 h1.2
    obtain rfl := h4 (by omega)
    rfl
theorem okN_two {n : Nd} (h : okN n = 0) (ha : ar n.op = 2) : n = ⟨n.op, n.x, n.y, 0, 0, 0⟩ := by
  unfold okN at h
  by_cases hh : badN n
  · simp [hh] at h
  · have h1 : n.op ≠ 1 ∧ n.op ≠ 2 := ar_12 (by omega)
    unfold badN at hh
    obtain ⟨op, x, y, m, k, v⟩ := n
    simp only [not_or, not_and, Decidable.not_not] at hh ha h1
    obtain ⟨-, h2, h3, -, -⟩ := hh
    obtain ⟨rfl, rfl⟩ : k = 0 ∧ v = 0 := Decidable.byContradiction (fun hc => h2 h1.1 (fun a b => hc ⟨a, b⟩))
    obtain rfl := h3 h1.2
    rfl
theorem okN_zero {n : Nd} (h : okN n = 0) (ha : ar n.op = 0) : (n = ⟨1, 0, 0, 0, n.k, n.v⟩ ∧ vokB n.k n.v = true) ∨ (n = ⟨2, 0, 0, n.n, 0, 0⟩ ∧ 0 ≤ n.n ∧ n.n < 4) := by
  unfold okN at h
  by_cases hh : badN n
  · simp [hh] at h
  · rw [if_neg hh] at h
    by_cases h9 : n.n < 0 ∨ 4 ≤ n.n
    · simp [h9] at h
    · rw [if_neg h9] at h
      have hv : vokB n.k n.v = true := by
        by_cases hv : vokB n.k n.v = true
        · exact hv
        · simp [hv] at h
      unfold badN at hh
      obtain ⟨op, x, y, m, k, v⟩ := n
      simp only [not_or, not_and, Decidable.not_not] at hh ha h9 hv ⊢
      obtain ⟨-, h2, h3, h4, h5⟩ := hh
      obtain rfl := h4 (by omega)
      obtain rfl := h5 (by omega)
      have hop : op = 1 ∨ op = 2 := by
        unfold ar at ha
        by_cases h8 : op = 1 ∨ op = 2
        · exact h8
        · rw [if_neg h8] at ha
          split at ha
          · omega
          · split at ha <;> omega
      rcases hop with rfl | rfl
      · obtain rfl := h3 (by decide)
        exact .inl ⟨rfl, hv⟩
      · obtain ⟨rfl, rfl⟩ : k = 0 ∧ v = 0 := Decidable.byContradiction (fun hc => h2 (by decide) (fun a b => hc ⟨a, b⟩))
        exact .inr ⟨rfl, by omega, by omega⟩

/-- a list that may be is a tree, laid out -/
theorem good_flat : ∀ (N : Nat) (l : List Nd) (bs : List Nat), l.length ≤ N → Good l bs → 0 < l.length → bs.getD (l.length - 1) 0 = 0 → ∃ t, Wf t ∧ flat t = l := by
  intro N
  induction N with
  | zero => intro l bs h1 _ h2; omega
  | succ N ih =>
    intro l bs hN hg h0 hb
    have hi : l.length - 1 < l.length := by omega
    obtain ⟨l', n, rfl⟩ : ∃ l' n, l = l' ++ [n] := ⟨l.dropLast, l.getLast (by intro e; simp [e] at h0), (List.dropLast_concat_getLast _).symm⟩
    have hlen : (l' ++ [n]).length = l'.length + 1 := by simp
    have hidx : (l' ++ [n]).length - 1 = l'.length := by simp
    rw [hidx] at hb
    have hn : (l' ++ [n])[l'.length]? = some n := by simp
    obtain ⟨ok, a0, ha0, ha1, ha2⟩ := good_at hg hn
    have hbl : bs.length = l'.length + 1 := by rw [hg.1, hlen]
    have hle := ar_le n.op
    rcases (by omega : ar n.op = 0 ∨ ar n.op = 1 ∨ ar n.op = 2) with h | h | h
    · have e := ha0 h
      have e0 : l'.length = 0 := by rw [hb] at e; omega
      have : l' = [] := List.eq_nil_of_length_eq_zero e0
      subst this
      rcases okN_zero ok h with ⟨e1, e2⟩ | ⟨e1, e2, e3⟩
      · exact ⟨.cst n.k n.v, e2, by rw [flat, ← e1]; rfl⟩
      · exact ⟨.fld n.n, ⟨e2, e3⟩, by rw [flat, ← e1]; rfl⟩
    · obtain ⟨p0, hx, hbb⟩ := ha1 h
      have gp : Good l' (bs.take l'.length) := good_pre hg
      obtain ⟨t, wt, ft⟩ := ih l' _ (by rw [hlen] at hN; omega) gp p0 (by rw [getD_take _ _ _ (by omega), ← hbb, hb])
      refine ⟨.one n.op t, ⟨h, wt⟩, ?_⟩
      rw [flat, join1, ft, okN_one ok h, hx]
    · obtain ⟨p0, hy, hc, hx, hbb⟩ := ha2 h
      obtain ⟨c, hcc⟩ : ∃ c, bs.getD (l'.length - 1) 0 = c := ⟨_, rfl⟩
      rw [hcc] at hc hx hbb
      have gp : Good l' (bs.take l'.length) := good_pre hg
      have hc2 : c ≤ l'.length - 1 := by
        have := good_le hg (l'.length - 1) (by rw [hlen]; omega)
        rw [hcc] at this
        exact this
      have gl : Good (l'.take c) ((bs.take l'.length).take (l'.take c).length) := good_pre (m := l'.drop c) (by rw [List.take_append_drop]; exact gp)
      have lc : (l'.take c).length = c := by simp; omega
      obtain ⟨t1, w1, f1⟩ := ih (l'.take c) _ (by rw [lc]; rw [hlen] at hN; omega) gl (by rw [lc]; exact hc) (by
        rw [lc, getD_take _ _ _ (by omega), getD_take _ _ _ (by omega)]
        rw [hb, getD_take _ _ _ (by omega)] at hbb
        exact hbb.symm)
      have e1 : (bs.take l'.length).getD (l'.length - 1) 0 = c := by rw [getD_take _ _ _ (by omega)]; exact hcc
      have gm := good_cut gp (l'.length - 1) (by omega)
      rw [e1] at gm
      have et : l'.take (l'.length - 1 + 1) = l' := by rw [show l'.length - 1 + 1 = l'.length from by omega, List.take_length]
      rw [et] at gm
      have lm : ((l'.drop c).map (mv (-(c : Int)))).length = l'.length - c := by simp
      obtain ⟨t2, w2, f2⟩ := ih _ _ (by rw [lm]; rw [hlen] at hN; omega) gm (by rw [lm]; omega) (by
        rw [lm, List.getD_eq_getElem?_getD, List.getElem?_map, List.getElem?_drop]
        rw [show c + (l'.length - c - 1) = l'.length - 1 from by omega]
        have : ((bs.take l'.length).take (l'.length - 1 + 1))[l'.length - 1]? = some c := by
          rw [List.getElem?_take, if_pos (by omega), List.getElem?_take, if_pos (by omega)]
          rw [List.getD_eq_getElem?_getD] at hcc
          rw [List.getElem?_eq_getElem (by omega)] at hcc ⊢
          simpa using hcc
        rw [this]
        simp)
      refine ⟨.two n.op t1 t2, ⟨h, w1, w2⟩, ?_⟩
      rw [flat, joinL, f1, f2, map_mv_mv, lc]
      rw [show -(c : Int) + (c : Int) = 0 from by omega, map_mv_zero, List.take_append_drop]
      congr 1
      rw [okN_two ok h, hx, hy]
      simp
      omega

theorem chk_flat {l : List Nd} (h : chkE l = 0) : ∃ t, Wf t ∧ flat t = l ∧ l.length ≤ 40 := by
  obtain ⟨bs, g, h1, h2, h3⟩ := good_of_chk h
  obtain ⟨t, a, b⟩ := good_flat l.length l bs (Nat.le_refl _) g h2 (by rw [List.getD_eq_getElem?_getD, h3]; rfl)
  exact ⟨t, a, b, h1⟩
theorem flat_chk {t : Ex} (h : Wf t) (hl : (flat t).length ≤ 40) : chkE (flat t) = 0 := by
  obtain ⟨bs, g, e⟩ := flat_good t h
  exact chk_of_good g hl (flat_pos t) e

/-- a tree's value -/
def evT (O : Int → V2 → V2 → V2) (ev : List V2) : Ex → V2
  | .cst k v => (k, v)
  | .fld n => nth ev n
  | .one op a => O op (evT O ev a) (0, 0)
  | .two op a b => O op (evT O ev a) (evT O ev b)
theorem ev_flat (O : Int → V2 → V2 → V2) (ev : List V2) : ∀ t : Ex, Wf t → evL O ev (flat t) = evT O ev t
  | .cst k v, _ => by simp [evL, flat, evF, evN, nth, evT]
  | .fld n, _ => by simp [evL, flat, evF, evN, evT]; simp [nth]
  | .one op a, h => by
    obtain ⟨h1, h2⟩ : ar op = 1 ∧ Wf a := h
    rw [flat, ev_join1 O ev op _ h1, ev_flat O ev a h2, evT]
  | .two op a b, h => by
    obtain ⟨h1, h2, h3⟩ : ar op = 2 ∧ Wf a ∧ Wf b := h
    obtain ⟨bb, gb, -⟩ := flat_good b h3
    rw [flat, ev_join O ev op _ _ bb gb (flat_pos a) (flat_pos b) h1, ev_flat O ev a h2, ev_flat O ev b h3, evT]

/-- the kind that a node of an operation says -/
def kindO (op : Int) : Int := if op = 4 ∨ op = 5 ∨ op = 9 ∨ op = 10 ∨ op = 11 ∨ op = 12 then 2 else 1
/-- a tree's type -/
def tyT : Ex → Option Int
  | .cst k v => some k
  | .fld n => some 1
  | .one op a => match tyT a with
    | some k => if goes op k then some (kindO op) else none
    | none => none
  | .two op a b => match tyT a, tyT b with
    | some k, some m => if goes op k && goes op m then some (kindO op) else none
    | _, _ => none
def tyP : Option Int → V2
  | some k => (k, 0)
  | none => (0, 3)

theorem tyF_app : ∀ (l m : List Nd) (ks : List Int), tyF (l ++ m) ks = (tyF l ks).bind (tyF m)
  | [], m, ks => rfl
  | n :: l, m, ks => by
    show (if fitN n ks then tyF (l ++ m) (ks ++ [kindN n]) else none) = _
    by_cases h : fitN n ks = true
    · rw [if_pos h, tyF_app l m]
      simp [tyF, h]
    · rw [if_neg h]
      simp [tyF, h]
theorem tyF_some : ∀ (l : List Nd) (ks r : List Int), tyF l ks = some r → r = ks ++ l.map kindN
  | [], ks, r, h => by simp [tyF] at h; simp [h]
  | n :: l, ks, r, h => by
    unfold tyF at h
    split at h
    · have := tyF_some l _ r h
      simp [this]
    · cases h
theorem fitP_mv (op : Int) (P ks : List Int) (p : Int) (h0 : 0 ≤ p) (h1 : p < ks.length) : fitP op (P ++ ks) (p + P.length) = fitP op ks p := by
  unfold fitP
  rw [if_neg (by simp; omega), if_neg (by omega)]
  congr 1
  rw [show (p + P.length).toNat = P.length + p.toNat from by omega, List.getD_eq_getElem?_getD, List.getD_eq_getElem?_getD, List.getElem?_append_right (by omega)]
  congr 2
  omega
theorem kindN_mv (c : Int) (n : Nd) : kindN (mv c n) = kindN n := by
  unfold mv kindN
  repeat' split
  all_goals first | rfl | simp_all
theorem fitN_mv (n : Nd) (P ks : List Int) (h1 : 1 ≤ ar n.op → 0 ≤ n.x ∧ n.x < ks.length) (h2 : ar n.op = 2 → 0 ≤ n.y ∧ n.y < ks.length) : fitN (mv P.length n) (P ++ ks) = fitN n ks := by
  unfold fitN
  rw [mv_op]
  by_cases a1 : ar n.op = 1
  · have e : (mv (P.length : Int) n).x = n.x + P.length := by unfold mv; rw [if_pos a1]
    rw [if_pos a1, if_pos a1, e, fitP_mv _ _ _ _ (h1 (by omega)).1 (h1 (by omega)).2]
  · by_cases a2 : ar n.op = 2
    · have ex : (mv (P.length : Int) n).x = n.x + P.length := by unfold mv; rw [if_neg a1, if_pos a2]
      have ey : (mv (P.length : Int) n).y = n.y + P.length := by unfold mv; rw [if_neg a1, if_pos a2]
      rw [if_neg a1, if_pos a2, if_neg a1, if_pos a2, ex, ey, fitP_mv _ _ _ _ (h1 (by omega)).1 (h1 (by omega)).2, fitP_mv _ _ _ _ (h2 a2).1 (h2 a2).2]
    · rw [if_neg a1, if_neg a2, if_neg a1, if_neg a2]
theorem tyF_mv (P : List Int) : ∀ (m pre : List Nd) (bs : List Nat) (ks : List Int), Good (pre ++ m) bs → ks.length = pre.length → tyF (m.map (mv P.length)) (P ++ ks) = (tyF m ks).map (P ++ ·)
  | [], pre, bs, ks, hg, hk => rfl
  | n :: m, pre, bs, ks, hg, hk => by
    have hn : (pre ++ n :: m)[pre.length]? = some n := by simp
    obtain ⟨q1, q2⟩ := good_part hg hn
    have hf : fitN (mv P.length n) (P ++ ks) = fitN n ks := fitN_mv n P ks (fun a => by
        obtain ⟨a1, a2, -⟩ := q1 a
        omega) (fun a => by
        obtain ⟨a1, a2, -⟩ := q2 a
        omega)
    rw [List.map_cons]
    unfold tyF
    rw [hf]
    by_cases h : fitN n ks = true
    · rw [if_pos h, if_pos h, kindN_mv, List.append_assoc]
      exact tyF_mv P m (pre ++ [n]) bs (ks ++ [kindN n]) (by rw [List.append_assoc]; exact hg) (by simp [hk])
    · rw [if_neg h, if_neg h]
      rfl
theorem fitP_last (op : Int) (P ks : List Int) (hk : 0 < ks.length) : fitP op (P ++ ks) ((P.length : Int) + ks.length - 1) = goes op (ks.getD (ks.length - 1) 0) := by
  unfold fitP
  rw [if_neg (by simp; omega)]
  congr 1
  rw [show ((P.length : Int) + ks.length - 1).toNat = P.length + (ks.length - 1) from by omega, List.getD_eq_getElem?_getD, List.getD_eq_getElem?_getD, List.getElem?_append_right (by omega)]
  congr 2
  omega
theorem fitP_left (op : Int) (P ks : List Int) (hk : 0 < P.length) : fitP op (P ++ ks) ((P.length : Int) - 1) = goes op (P.getD (P.length - 1) 0) := by
  unfold fitP
  rw [if_neg (by simp; omega)]
  congr 1
  rw [show ((P.length : Int) - 1).toNat = P.length - 1 from by omega, List.getD_eq_getElem?_getD, List.getD_eq_getElem?_getD, List.getElem?_append_left (by omega)]

/-- the types ahead of a tree's last node, and its own -/
theorem tyF_flat : ∀ t : Ex, Wf t → match tyT t with
    | some k => ∃ ks, tyF (flat t) [] = some ks ∧ ks.length = (flat t).length ∧ ks.getD (ks.length - 1) 0 = k
    | none => tyF (flat t) [] = none
  | .cst k v, _ => ⟨[k], by simp [flat, tyF, fitN, ar, kindN], rfl, rfl⟩
  | .fld n, _ => ⟨[1], by simp [flat, tyF, fitN, ar, kindN], rfl, rfl⟩
  | .one op a, h => by
    obtain ⟨h1, h2⟩ : ar op = 1 ∧ Wf a := h
    have ih := tyF_flat a h2
    obtain ⟨o1, o2⟩ := ar_12 (by omega : 1 ≤ ar op)
    have hk : kindN ⟨op, ((flat a).length : Int) - 1, 0, 0, 0, 0⟩ = kindO op := by unfold kindN kindO; simp [o1]
    rw [flat, join1, tyF_app]
    unfold tyT
    rcases ht : tyT a with _ | k
    · rw [ht] at ih
      simp only at ih ⊢
      rw [ih]
      rfl
    · rw [ht] at ih
      simp only at ih ⊢
      obtain ⟨ks, e1, e2, e3⟩ := ih
      have pos : 0 < ks.length := by rw [e2]; exact flat_pos a
      rw [e1]
      have hfit : fitN ⟨op, ((flat a).length : Int) - 1, 0, 0, 0, 0⟩ ks = goes op k := by
        unfold fitN
        rw [if_pos h1]
        have := fitP_left op ks [] pos
        rw [List.append_nil, e2] at this
        rw [this, ← e3, e2]
      by_cases hg : goes op k = true
      · rw [if_pos hg]
        refine ⟨ks ++ [kindO op], ?_, by simp [e2], by simp⟩
        show (if fitN _ ks then tyF [] (ks ++ [kindN _]) else none) = _
        rw [hfit, if_pos hg, hk]
        rfl
      · rw [if_neg hg]
        show (if fitN _ ks then tyF [] (ks ++ [kindN _]) else none) = none
        rw [hfit, if_neg hg]
  | .two op a b, h => by
    obtain ⟨h1, h2, h3⟩ : ar op = 2 ∧ Wf a ∧ Wf b := h
    have iha := tyF_flat a h2
    have ihb := tyF_flat b h3
    obtain ⟨o1, o2⟩ := ar_12 (by omega : 1 ≤ ar op)
    obtain ⟨bb, gb, -⟩ := flat_good b h3
    have hk : kindN ⟨op, ((flat a).length : Int) - 1, ((flat a).length : Int) + (flat b).length - 1, 0, 0, 0⟩ = kindO op := by unfold kindN kindO; simp [o1]
    rw [flat, joinL, tyF_app, tyF_app]
    unfold tyT
    rcases hta : tyT a with _ | k
    · rw [hta] at iha
      simp only at iha ⊢
      rw [iha]
      rfl
    · rw [hta] at iha
      simp only at iha
      obtain ⟨ks, e1, e2, e3⟩ := iha
      have pos : 0 < ks.length := by rw [e2]; exact flat_pos a
      rw [e1]
      have hmv : tyF ((flat b).map (mv (flat a).length)) ks = (tyF (flat b) []).map (ks ++ ·) := by
        have := tyF_mv ks (flat b) [] bb [] (by simpa using gb) rfl
        rw [List.append_nil, e2] at this
        exact this
      rcases htb : tyT b with _ | m
      · rw [htb] at ihb
        simp only at ihb ⊢
        show ((tyF ((flat b).map (mv (flat a).length)) ks).bind _) = none
        rw [hmv, ihb]
        rfl
      · rw [htb] at ihb
        simp only at ihb ⊢
        obtain ⟨js, f1, f2, f3⟩ := ihb
        have posb : 0 < js.length := by rw [f2]; exact flat_pos b
        have hx : fitP op (ks ++ js) (((flat a).length : Int) - 1) = goes op k := by
          have := fitP_left op ks js pos
          rw [e2] at this
          rw [this, ← e3, e2]
        have hy : fitP op (ks ++ js) (((flat a).length : Int) + (flat b).length - 1) = goes op m := by
          have := fitP_last op ks js posb
          rw [e2, f2] at this
          rw [this, ← f3, f2]
        have hfit : fitN ⟨op, ((flat a).length : Int) - 1, ((flat a).length : Int) + (flat b).length - 1, 0, 0, 0⟩ (ks ++ js) = (goes op k && goes op m) := by
          unfold fitN
          simp only
          rw [if_neg (by omega), if_pos h1, hx, hy]
          cases goes op k <;> cases goes op m <;> rfl
        have hstep : ((some ks).bind (tyF ((flat b).map (mv (flat a).length)))).bind (tyF [⟨op, ((flat a).length : Int) - 1, ((flat a).length : Int) + (flat b).length - 1, 0, 0, 0⟩]) = if (goes op k && goes op m) = true then some (ks ++ js ++ [kindO op]) else none := by
          show ((tyF ((flat b).map (mv (flat a).length)) ks).bind _) = _
          rw [hmv, f1]
          show (if fitN _ (ks ++ js) then tyF [] (ks ++ js ++ [kindN _]) else none) = _
          rw [hfit, hk]
          rfl
        rw [hstep]
        by_cases hg : (goes op k && goes op m) = true
        · rw [if_pos hg, if_pos hg]
          exact ⟨ks ++ js ++ [kindO op], rfl, by simp [e2, f2], by simp⟩
        · rw [if_neg hg, if_neg hg]

theorem ty_flat (t : Ex) (h : Wf t) : tyE (flat t) = tyP (tyT t) := by
  have := tyF_flat t h
  have pos := flat_pos t
  unfold tyE
  rw [if_neg (by omega)]
  rcases ht : tyT t with _ | k
  · rw [ht] at this
    simp only at this
    rw [this]
    rfl
  · rw [ht] at this
    simp only at this
    obtain ⟨ks, e1, e2, e3⟩ := this
    rw [e1]
    simp only
    rw [← e2, e3]
    rfl
end Go.Proofs.YteaanpdckkmjoaaGreatDoor

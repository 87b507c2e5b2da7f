/- Several texts in one, each with its own head. What is proved: what the parts say. Conditions: theirs. -/
import Derived.Test.YteaanpdckkmjoaaGreatDoorLex3J
import Derived.Test.YteaanpdckkmjoaaGreatDoorNumPureJ
import Derived.Test.YteaanpdckkmjoaaGreatDoorPrsLJ
import Derived.Test.YteaanpdckkmjoaaGreatDoorTx4
/- The words of an expression's text are read as it, or it is too deep: plain functions. Conditions: numbers are not below nought. -/
namespace Go.Proofs.YteaanpdckkmjoaaGreatDoor
set_option linter.unusedVariables false
set_option linter.unusedSimpArgs false

/-- an expression's words -/
def wdE : Ex → Ws
  | .cst k v => [⟨(textB k v).toArray⟩]
  | .fld n => [fldB n]
  | .one op a => if op = 3 then wOpen :: wMinus :: (wdE a ++ [wClose]) else if op = 4 then wOpen :: wNot :: (wdE a ++ [wClose]) else wOpen :: (wdE a ++ [wIs, wNull, wClose])
  | .two op a b => wOpen :: (wdE a ++ sgnB op :: (wdE b ++ [wClose]))
def dp : Ex → Nat
  | .cst _ _ => 0
  | .fld _ => 0
  | .one _ a => dp a + 1
  | .two _ a b => max (dp a) (dp b) + 1
def PosE : Ex → Prop
  | .cst _ v => 0 ≤ v
  | .fld _ => True
  | .one _ a => PosE a
  | .two _ a b => PosE a ∧ PosE b
theorem dp_lt : ∀ t : Ex, dp t < (flat t).length
  | .cst k v => by simp [flat, dp]
  | .fld n => by simp [flat, dp]
  | .one op a => by have := dp_lt a; simp [flat, join1, dp]; omega
  | .two op a b => by have := dp_lt a; have := dp_lt b; simp [flat, joinL, dp]; omega

/-- read so, or too much -/
def G (R : PR) (x : List Nd) (r : Ws) : Prop := R = .ok (x, r) ∨ R = .error 2
theorem tkS_no {k : Int} {w : ByteArray} {r : Ws} (h : sgOf w = none) : tkS k (w :: r) = none := by simp only [tkS, h]
theorem tkS_ne {k : Int} {w : ByteArray} {r : Ws} {s : Sg} (h : sgOf w = some s) (h2 : s.rank ≠ k) : tkS k (w :: r) = none := by simp only [tkS, h, if_neg h2]
theorem tkS_yes {k : Int} {w : ByteArray} {r : Ws} {s : Sg} (h : sgOf w = some s) (h2 : s.rank = k) : tkS k (w :: r) = some (s, r) := by simp only [tkS, h, if_pos h2]
theorem tk_hit (w : ByteArray) (r : Ws) : tk w (w :: r) = some r := by simp only [tk, if_true]
theorem tk_miss {w v : ByteArray} {r : Ws} (h : v ≠ w) : tk w (v :: r) = none := by simp only [tk, if_neg h]
theorem row_one {inner : Ws → PR} {rank : Int} {k : Nat} {ws r : Ws} {x : List Nd} (h : G (inner ws) x r) (hr : tkS rank r = none) (hk : 1 ≤ k) : G (rowP inner rank k ws) x r := by
  obtain ⟨j, rfl⟩ : ∃ j, k = j + 1 := ⟨k - 1, by omega⟩
  rcases h with h | h
  · left
    unfold rowP
    rw [h]
    simp only [rowL, hr]
  · right
    unfold rowP
    rw [h]
theorem row_two {inner : Ws → PR} {rank : Int} {k : Nat} {ws r r1 r2 : Ws} {x y z : List Nd} {s : Sg} (h : G (inner ws) x r) (hr : tkS rank r = some (s, r1)) (h2 : G (inner r1) y r2) (hj : jnS s x y = .ok z) (hr2 : tkS rank r2 = none) (hk : 2 ≤ k) : G (rowP inner rank k ws) z r2 := by
  obtain ⟨j, rfl⟩ : ∃ j, k = j + 2 := ⟨k - 2, by omega⟩
  rcases h with h | h
  · unfold rowP
    rw [h]
    simp only [rowL, hr]
    rcases h2 with h2 | h2
    · left
      simp only [h2, hj, hr2]
    · right
      simp only [h2]
  · right
    unfold rowP
    rw [h]
theorem s6 {f d : Nat} {ws r : Ws} {x : List Nd} (h : G (lev f 7 ws d) x r) (hm : tk wMinus ws = none) : G (lev (f + 1) 6 ws d) x r := by
  have e : lev (f + 1) 6 ws d = lev f 7 ws d := by
    show (match tk wMinus ws with
        | some ws1 => aheadP 3 (deepP (fun ws d => lev f 6 ws d) ws1 d)
        | none => lev f 7 ws d) = _
    rw [hm]
  rw [e]
  exact h
theorem s5 {f d : Nat} {ws r : Ws} {x : List Nd} (h : G (lev f 6 ws d) x r) (hr : tkS 4 r = none) (hf : 1 ≤ f) : G (lev (f + 1) 5 ws d) x r := row_one h hr hf
theorem s4 {f d : Nat} {ws r : Ws} {x : List Nd} (h : G (lev f 5 ws d) x r) (hr : tkS 3 r = none) (hf : 1 ≤ f) : G (lev (f + 1) 4 ws d) x r := row_one h hr hf
theorem s1 {f d : Nat} {ws r : Ws} {x : List Nd} (h : G (lev f 2 ws d) x r) (hr : tkS 1 r = none) (hf : 1 ≤ f) : G (lev (f + 1) 1 ws d) x r := row_one h hr hf
theorem s0 {f d : Nat} {ws r : Ws} {x : List Nd} (h : G (lev f 1 ws d) x r) (hr : tkS 0 r = none) (hf : 1 ≤ f) : G (lev (f + 1) 0 ws d) x r := row_one h hr hf
theorem lev3 (f d : Nat) (ws : Ws) : lev (f + 1) 3 ws d = (match lev f 4 ws d with
        | .error c => .error c
        | .ok (x, ws1) => cmpP (fun ws => lev f 4 ws d) x ws1) := rfl
theorem s3 {f d : Nat} {ws r : Ws} {x : List Nd} (h : G (lev f 4 ws d) x r) (hi : tk wIs r = none) (hr : tkS 2 r = none) : G (lev (f + 1) 3 ws d) x r := by
  rw [lev3]
  rcases h with h | h
  · left
    rw [h]
    simp only [cmpP, hi, hr]
  · right
    rw [h]
theorem s2 {f d : Nat} {ws r : Ws} {x : List Nd} (h : G (lev f 3 ws d) x r) (hn : tk wNot ws = none) : G (lev (f + 1) 2 ws d) x r := by
  have e : lev (f + 1) 2 ws d = lev f 3 ws d := by
    show (match tk wNot ws with
        | some ws1 => aheadP 4 (deepP (fun ws d => lev f 2 ws d) ws1 d)
        | none => lev f 3 ws d) = _
    rw [hn]
  rw [e]
  exact h
theorem c3 {f d : Nat} {ws r r1 r2 : Ws} {x y z : List Nd} {s : Sg} (h : G (lev f 4 ws d) x r) (hi : tk wIs r = none) (hr : tkS 2 r = some (s, r1)) (h2 : G (lev f 4 r1 d) y r2) (hj : jnS s x y = .ok z) : G (lev (f + 1) 3 ws d) z r2 := by
  rw [lev3]
  rcases h with h | h
  · rw [h]
    simp only [cmpP, hi, hr]
    rcases h2 with h2 | h2
    · left
      simp only [h2, hj, wth]
    · right
      simp only [h2]
  · right
    rw [h]
theorem i3 {f d : Nat} {ws r : Ws} {x z : List Nd} (h : G (lev f 4 ws d) x (wIs :: wNull :: r)) (hj : jn1 5 x = .ok z) : G (lev (f + 1) 3 ws d) z r := by
  rw [lev3]
  rcases h with h | h
  · left
    rw [h]
    have e1 : tk wIs (wIs :: wNull :: r) = some (wNull :: r) := tk_hit _ _
    have e2 : tk wNot (wNull :: r) = none := tk_miss (by decide)
    have e3 : tk wNull (wNull :: r) = some r := tk_hit _ _
    simp only [cmpP, e1, isP, e2, nullP, e3, hj, jnD, wth]
    rfl
  · right
    rw [h]
theorem ahead_G {op : Int} {inner : Ws → Nat → PR} {ws r : Ws} {d : Nat} {x z : List Nd} (h : d < 12 → G (inner ws (d + 1)) x r) (hd : d ≤ 12) (hj : jn1 op x = .ok z) : G (aheadP op (deepP inner ws d)) z r := by
  unfold deepP
  by_cases h12 : d = 12
  · right
    rw [if_pos h12]
    rfl
  · rw [if_neg h12]
    rcases h (by omega) with h | h
    · left
      rw [h]
      simp only [aheadP, hj, wth]
    · right
      rw [h]
      rfl
theorem n6 {f d : Nat} {ws r : Ws} {x z : List Nd} (h : d < 12 → G (lev f 6 ws (d + 1)) x r) (hd : d ≤ 12) (hj : jn1 3 x = .ok z) : G (lev (f + 1) 6 (wMinus :: ws) d) z r := by
  have e : lev (f + 1) 6 (wMinus :: ws) d = aheadP 3 (deepP (fun ws d => lev f 6 ws d) ws d) := by
    show (match tk wMinus (wMinus :: ws) with
        | some ws1 => aheadP 3 (deepP (fun ws d => lev f 6 ws d) ws1 d)
        | none => lev f 7 (wMinus :: ws) d) = _
    rw [tk_hit]
  rw [e]
  exact ahead_G (inner := fun ws d => lev f 6 ws d) h hd hj
theorem n2 {f d : Nat} {ws r : Ws} {x z : List Nd} (h : d < 12 → G (lev f 2 ws (d + 1)) x r) (hd : d ≤ 12) (hj : jn1 4 x = .ok z) : G (lev (f + 1) 2 (wNot :: ws) d) z r := by
  have e : lev (f + 1) 2 (wNot :: ws) d = aheadP 4 (deepP (fun ws d => lev f 2 ws d) ws d) := by
    show (match tk wNot (wNot :: ws) with
        | some ws1 => aheadP 4 (deepP (fun ws d => lev f 2 ws d) ws1 d)
        | none => lev f 3 (wNot :: ws) d) = _
    rw [tk_hit]
  rw [e]
  exact ahead_G (inner := fun ws d => lev f 2 ws d) h hd hj
theorem p7 {f d : Nat} {ws r : Ws} {x : List Nd} (h : d < 12 → G (lev f 0 ws (d + 1)) x (wClose :: r)) (hd : d ≤ 12) : G (lev (f + 1) 7 (wOpen :: ws) d) x r := by
  have e : lev (f + 1) 7 (wOpen :: ws) d = closeP (deepP (fun ws d => lev f 0 ws d) ws d) := by
    show (match tk wOpen (wOpen :: ws) with
        | some ws1 => closeP (deepP (fun ws d => lev f 0 ws d) ws1 d)
        | none => leafP (wOpen :: ws)) = _
    rw [tk_hit]
  rw [e]
  unfold deepP
  by_cases h12 : d = 12
  · right
    rw [if_pos h12]
    rfl
  · rw [if_neg h12]
    show G (closeP (lev f 0 ws (d + 1))) x r
    rcases h (by omega) with h | h
    · left
      rw [h]
      have e3 : tk wClose (wClose :: r) = some r := tk_hit _ _
      simp only [closeP, e3]
    · right
      rw [h]
      rfl
theorem l7 {f d : Nat} {w : ByteArray} {r : Ws} {n : Nd} (h : leafQ w = some n) (hw : w ≠ wOpen) : G (lev (f + 1) 7 (w :: r) d) [n] r := by
  left
  show (match tk wOpen (w :: r) with
        | some ws1 => closeP (deepP (fun ws d => lev f 0 ws d) ws1 d)
        | none => leafP (w :: r)) = _
  rw [tk_miss hw]
  simp only [leafP, h]

/-! Leaves. -/
def digW (w : ByteArray) : Prop := ∃ c r, w.data.toList = c :: r ∧ 48 ≤ c.toNat ∧ c.toNat ≤ 57
theorem dig_ne {w v : ByteArray} (h : digW w) (hv : ∀ c r, v.data.toList = c :: r → c.toNat < 48 ∨ 57 < c.toNat) : w ≠ v := by
  rintro rfl
  obtain ⟨c, r, e, h1, h2⟩ := h
  have := hv c r e
  omega
theorem itoa_pos (v : Int) (h : 0 ≤ v) : Lib.itoa v = Lib.decDigits v.toNat := by unfold Lib.itoa; rw [if_neg (by omega)]
theorem digs (u : Nat) (hu : u ≤ 1000000000) : digW ⟨(Lib.decDigits u).toArray⟩ ∧ ∀ most, u ≤ most → most ≤ 1000000000 → numQ most ⟨(Lib.decDigits u).toArray⟩ = some u := by
  obtain ⟨p1, p2, p3⟩ := parse_digits u (by omega)
  constructor
  · cases h : Lib.decDigits u with
    | nil => exact absurd h p2
    | cons c r =>
      have := p3 c (by rw [h]; exact List.mem_cons_self ..)
      exact ⟨c, r, by simp, this.1, this.2⟩
  · intro most h1 h2
    unfold numQ
    have e : (⟨(Lib.decDigits u).toArray⟩ : ByteArray).data.toList = Lib.decDigits u := by simp
    rw [e, if_neg p2]
    cases hm : natM most 0 (Lib.decDigits u) with
    | none => have := natM_none most _ 0 u hm p1; omega
    | some v =>
      have := (natM_parse most h2 _ 0 v (by omega) hm).1
      rw [p1] at this
      injection this with this
      rw [this]
theorem fld_none {w : ByteArray} (h : digW w) : fldQ w = none := by
  unfold fldQ
  rw [if_neg (dig_ne h (fun c r e => by cases e; decide)), if_neg (dig_ne h (fun c r e => by cases e; decide)), if_neg (dig_ne h (fun c r e => by cases e; decide)), if_neg (dig_ne h (fun c r e => by cases e; decide))]
/-- the first word of an expression -/
def hdOk (w : ByteArray) : Prop := w ≠ wMinus ∧ w ≠ wNot ∧ w ≠ wStar
theorem cst_leaf (k v : Int) (h : vokB k v = true) (h0 : 0 ≤ v) : leafQ ⟨(textB k v).toArray⟩ = some ⟨1, 0, 0, 0, k, v⟩ ∧ (⟨(textB k v).toArray⟩ : ByteArray) ≠ wOpen ∧ hdOk ⟨(textB k v).toArray⟩ := by
  have hv := of_decide_eq_true h
  rcases hv with ⟨rfl, rfl⟩ | ⟨rfl, -, h2⟩ | ⟨rfl, rfl | rfl⟩
  · exact ⟨by decide, by decide, by decide, by decide, by decide⟩
  · have e : textB 1 v = Lib.decDigits v.toNat := by unfold textB; rw [if_pos rfl]; exact itoa_pos v h0
    rw [e]
    obtain ⟨d1, d2⟩ := digs v.toNat (by omega)
    refine ⟨?_, dig_ne d1 (fun c r e => by cases e; decide), dig_ne d1 (fun c r e => by cases e; decide), dig_ne d1 (fun c r e => by cases e; decide), dig_ne d1 (fun c r e => by cases e; decide)⟩
    unfold leafQ
    rw [fld_none d1]
    simp only
    rw [if_neg (dig_ne d1 (fun c r e => by cases e; decide)), if_neg (dig_ne d1 (fun c r e => by cases e; decide)), if_neg (dig_ne d1 (fun c r e => by cases e; decide)), d2 1000000000 (by omega) (by omega)]
    simp only [Option.some.injEq, Nd.mk.injEq, true_and]
    omega
  · exact ⟨by decide, by decide, by decide, by decide, by decide⟩
  · exact ⟨by decide, by decide, by decide, by decide, by decide⟩
theorem fld_leaf (n : Int) (h0 : 0 ≤ n) (h4 : n < 4) : leafQ (fldB n) = some ⟨2, 0, 0, n, 0, 0⟩ ∧ fldB n ≠ wOpen ∧ hdOk (fldB n) := by
  have : n = 0 ∨ n = 1 ∨ n = 2 ∨ n = 3 := by omega
  rcases this with rfl | rfl | rfl | rfl <;> exact ⟨by decide, by decide, by decide, by decide, by decide⟩
theorem wd_hd : ∀ t : Ex, Wf t → PosE t → ∃ w r, wdE t = w :: r ∧ hdOk w
  | .cst k v, h, hp => ⟨_, _, rfl, (cst_leaf k v h hp).2.2⟩
  | .fld n, h, hp => ⟨_, _, rfl, (fld_leaf n h.1 h.2).2.2⟩
  | .one op a, h, hp => by
    unfold wdE
    split
    · exact ⟨_, _, rfl, by decide, by decide, by decide⟩
    · split <;> exact ⟨_, _, rfl, by decide, by decide, by decide⟩
  | .two op a b, h, hp => ⟨_, _, rfl, by decide, by decide, by decide⟩
theorem hd_tk {t : Ex} (h : Wf t) (hp : PosE t) (r : Ws) : tk wMinus (wdE t ++ r) = none ∧ tk wNot (wdE t ++ r) = none ∧ tk wStar (wdE t ++ r) = none := by
  obtain ⟨w, q, e, h1, h2, h3⟩ := wd_hd t h hp
  rw [e]
  exact ⟨tk_miss h1, tk_miss h2, tk_miss h3⟩

/-! Up and down the levels. -/
theorem up4 {f d : Nat} {ws r : Ws} {x : List Nd} (h : G (lev f 7 ws d) x r) (hm : tk wMinus ws = none) (h4 : tkS 4 r = none) (h3 : tkS 3 r = none) : G (lev (f + 3) 4 ws d) x r := s4 (s5 (s6 h hm) h4 (by omega)) h3 (by omega)
theorem up2 {f d : Nat} {ws r : Ws} {x : List Nd} (h : G (lev f 7 ws d) x r) (hm : tk wMinus ws = none) (hn : tk wNot ws = none) (h4 : tkS 4 r = none) (h3 : tkS 3 r = none) (hi : tk wIs r = none) (h2 : tkS 2 r = none) : G (lev (f + 5) 2 ws d) x r := s2 (s3 (up4 h hm h4 h3) hi h2) hn
theorem cl (k : Int) (r : Ws) : tkS k (wClose :: r) = none := tkS_no (by decide)
theorem clI (r : Ws) : tk wIs (wClose :: r) = none := tk_miss (by decide)
theorem dn4 {f d : Nat} {ws r : Ws} {x : List Nd} (h : G (lev f 4 ws d) x (wClose :: r)) (hn : tk wNot ws = none) : G (lev (f + 4) 0 ws d) x (wClose :: r) := s0 (s1 (s2 (s3 h (clI r) (cl 2 r)) hn) (cl 1 r) (by omega)) (cl 0 r) (by omega)
theorem dn3 {f d : Nat} {ws r : Ws} {x : List Nd} (h : G (lev f 3 ws d) x (wClose :: r)) (hn : tk wNot ws = none) : G (lev (f + 3) 0 ws d) x (wClose :: r) := s0 (s1 (s2 h hn) (cl 1 r) (by omega)) (cl 0 r) (by omega)
theorem jn1_ok {op : Int} {x : List Nd} (h : (join1 op x).length ≤ 40) : jn1 op x = .ok (join1 op x) := by
  unfold jn1
  rw [if_neg (by simp [join1] at h; omega)]
theorem jnS_ok {op rk : Int} {x y : List Nd} (h : (joinL op x y).length ≤ 40) : jnS ⟨rk, op, false, false⟩ x y = .ok (joinL op x y) := by
  unfold jnS jnD jn2
  simp only [Bool.false_eq_true, if_false]
  rw [if_neg (by simp [joinL] at h; omega)]
theorem lev_add {f g d n : Nat} {ws r : Ws} {x : List Nd} (e : g = f) (h : G (lev f n ws d) x r) : G (lev g n ws d) x r := e ▸ h
/-- an expression is read as it, or it is too deep -/
theorem rt_atom : ∀ (t : Ex), Wf t → PosE t → ∀ (f d : Nat) (rest : Ws), 9 * dp t + 12 ≤ f → (flat t).length ≤ 40 → d ≤ 12 → G (lev f 7 (wdE t ++ rest) d) (flat t) rest
  | .cst k v, h, hp, f, d, rest, hf, hl, hd => by
    obtain ⟨g, rfl⟩ : ∃ g, f = g + 1 := ⟨f - 1, by omega⟩
    exact l7 (cst_leaf k v h hp).1 (cst_leaf k v h hp).2.1
  | .fld n, h, hp, f, d, rest, hf, hl, hd => by
    obtain ⟨g, rfl⟩ : ∃ g, f = g + 1 := ⟨f - 1, by omega⟩
    exact l7 (fld_leaf n h.1 h.2).1 (fld_leaf n h.1 h.2).2.1
  | .one op a, h, hp, f, d, rest, hf, hl, hd => by
    obtain ⟨h1, h2⟩ : ar op = 1 ∧ Wf a := h
    have hpa : PosE a := hp
    have hla : (flat a).length ≤ 40 := by simp [flat, join1] at hl; omega
    have IH := rt_atom a h2 hpa
    have hk := fun r => hd_tk h2 hpa r
    simp only [dp] at hf
    obtain ⟨g, rfl⟩ : ∃ g, f = g + 20 := ⟨f - 20, by omega⟩
    have hj := jn1_ok (op := op) (x := flat a) hl
    have ho : op = 3 ∨ op = 4 ∨ op = 5 := by
      unfold ar at h1
      split at h1
      · omega
      · split at h1
        · omega
        · split at h1 <;> omega
    rcases ho with rfl | rfl | rfl
    · have e : wdE (.one 3 a) ++ rest = wOpen :: wMinus :: (wdE a ++ wClose :: rest) := by simp [wdE]
      rw [e]
      refine p7 (fun h12 => ?_) hd
      have A : ∀ e', e' ≤ 12 → G (lev (g + 11) 7 (wdE a ++ wClose :: rest) e') (flat a) (wClose :: rest) := fun e' he => IH _ e' _ (by omega) hla he
      have B : G (lev (g + 13) 6 (wMinus :: (wdE a ++ wClose :: rest)) (d + 1)) (join1 3 (flat a)) (wClose :: rest) := n6 (fun h => s6 (A _ (by omega)) (hk _).1) (by omega) hj
      exact dn4 (f := g + 15) (s4 (s5 B (cl 4 rest) (by omega)) (cl 3 rest) (by omega)) (tk_miss (by decide))
    · have e : wdE (.one 4 a) ++ rest = wOpen :: wNot :: (wdE a ++ wClose :: rest) := by simp [wdE]
      rw [e]
      refine p7 (fun h12 => ?_) hd
      have A : ∀ e', e' ≤ 12 → G (lev (g + 11) 7 (wdE a ++ wClose :: rest) e') (flat a) (wClose :: rest) := fun e' he => IH _ e' _ (by omega) hla he
      have B : G (lev (g + 17) 2 (wNot :: (wdE a ++ wClose :: rest)) (d + 1)) (join1 4 (flat a)) (wClose :: rest) := n2 (fun h => up2 (A _ (by omega)) (hk _).1 (hk _).2.1 (cl 4 rest) (cl 3 rest) (clI rest) (cl 2 rest)) (by omega) hj
      exact s0 (s1 B (cl 1 rest) (by omega)) (cl 0 rest) (by omega)
    · have e : wdE (.one 5 a) ++ rest = wOpen :: (wdE a ++ wIs :: wNull :: wClose :: rest) := by simp [wdE]
      rw [e]
      refine p7 (fun h12 => ?_) hd
      have A : G (lev (g + 12) 7 (wdE a ++ wIs :: wNull :: wClose :: rest) (d + 1)) (flat a) (wIs :: wNull :: wClose :: rest) := IH _ _ _ (by omega) hla (by omega)
      have B := i3 (up4 A (hk _).1 (tkS_no (by decide)) (tkS_no (by decide))) hj
      exact dn3 (f := g + 16) B (hk _).2.1
  | .two op a b, h, hp, f, d, rest, hf, hl, hd => by
    obtain ⟨h1, h2, h3⟩ : ar op = 2 ∧ Wf a ∧ Wf b := h
    obtain ⟨pa, pb⟩ : PosE a ∧ PosE b := hp
    have hla : (flat a).length ≤ 40 := by simp [flat, joinL] at hl; omega
    have hlb : (flat b).length ≤ 40 := by simp [flat, joinL] at hl; omega
    have IA := rt_atom a h2 pa
    have IB := rt_atom b h3 pb
    have ka := fun r => hd_tk h2 pa r
    have kb := fun r => hd_tk h3 pb r
    simp only [dp] at hf
    obtain ⟨g, rfl⟩ : ∃ g, f = g + 20 := ⟨f - 20, by omega⟩
    have hj := fun rk => jnS_ok (op := op) (rk := rk) (x := flat a) (y := flat b) hl
    have e : wdE (.two op a b) ++ rest = wOpen :: (wdE a ++ sgnB op :: (wdE b ++ wClose :: rest)) := by simp [wdE]
    rw [e]
    refine p7 (fun h12 => ?_) hd
    have A : ∀ g', g + 3 ≤ g' → G (lev (g' + 8) 7 (wdE a ++ sgnB op :: (wdE b ++ wClose :: rest)) (d + 1)) (flat a) (sgnB op :: (wdE b ++ wClose :: rest)) := fun g' hg => IA _ _ _ (by omega) hla (by omega)
    have B : ∀ g', g + 3 ≤ g' → G (lev (g' + 8) 7 (wdE b ++ wClose :: rest) (d + 1)) (flat b) (wClose :: rest) := fun g' hg => IB _ _ _ (by omega) hlb (by omega)
    have ho : op = 6 ∨ op = 7 ∨ op = 8 ∨ op = 9 ∨ op = 10 ∨ op = 11 ∨ op = 12 := by
      unfold ar at h1
      split at h1
      · omega
      · split at h1
        · omega
        · split at h1 <;> omega
    show G (lev (g + 19) 0 (wdE a ++ sgnB op :: (wdE b ++ wClose :: rest)) (d + 1)) (joinL op (flat a) (flat b)) (wClose :: rest)
    rcases ho with rfl | rfl | rfl | rfl | rfl | rfl | rfl
    · have C : G (lev (g + 15) 4 _ (d + 1)) _ _ := row_two (inner := fun ws => lev (g + 14) 5 ws (d + 1)) (rank := 3) (k := g + 14) (s := ⟨3, 6, false, false⟩) (s5 (s6 (A (g + 4) (by omega)) (ka _).1) (tkS_ne (s := ⟨3, 6, false, false⟩) (by decide) (by decide)) (by omega)) (tkS_yes (by decide) rfl) (s5 (s6 (B (g + 4) (by omega)) (kb _).1) (cl 4 rest) (by omega)) (hj 3) (cl 3 rest) (by omega)
      exact dn4 C (ka _).2.1
    · have C : G (lev (g + 15) 4 _ (d + 1)) _ _ := row_two (inner := fun ws => lev (g + 14) 5 ws (d + 1)) (rank := 3) (k := g + 14) (s := ⟨3, 7, false, false⟩) (s5 (s6 (A (g + 4) (by omega)) (ka _).1) (tkS_ne (s := ⟨3, 7, false, false⟩) (by decide) (by decide)) (by omega)) (tkS_yes (by decide) rfl) (s5 (s6 (B (g + 4) (by omega)) (kb _).1) (cl 4 rest) (by omega)) (hj 3) (cl 3 rest) (by omega)
      exact dn4 C (ka _).2.1
    · have C : G (lev (g + 14) 5 _ (d + 1)) _ _ := row_two (inner := fun ws => lev (g + 13) 6 ws (d + 1)) (rank := 4) (k := g + 13) (s := ⟨4, 8, false, false⟩) (s6 (A (g + 4) (by omega)) (ka _).1) (tkS_yes (by decide) rfl) (s6 (B (g + 4) (by omega)) (kb _).1) (hj 4) (cl 4 rest) (by omega)
      exact dn4 (s4 C (cl 3 rest) (by omega)) (ka _).2.1
    · have C : G (lev (g + 18) 1 _ (d + 1)) _ _ := row_two (inner := fun ws => lev (g + 17) 2 ws (d + 1)) (rank := 1) (k := g + 17) (s := ⟨1, 9, false, false⟩) (up2 (A (g + 4) (by omega)) (ka _).1 (ka _).2.1 (tkS_ne (s := ⟨1, 9, false, false⟩) (by decide) (by decide)) (tkS_ne (s := ⟨1, 9, false, false⟩) (by decide) (by decide)) (tk_miss (by decide)) (tkS_ne (s := ⟨1, 9, false, false⟩) (by decide) (by decide))) (tkS_yes (by decide) rfl) (up2 (B (g + 4) (by omega)) (kb _).1 (kb _).2.1 (cl 4 rest) (cl 3 rest) (clI rest) (cl 2 rest)) (hj 1) (cl 1 rest) (by omega)
      exact s0 C (cl 0 rest) (by omega)
    · have C : G (lev (g + 19) 0 _ (d + 1)) _ _ := row_two (inner := fun ws => lev (g + 18) 1 ws (d + 1)) (rank := 0) (k := g + 18) (s := ⟨0, 10, false, false⟩) (s1 (f := g + 17) (up2 (A (g + 4) (by omega)) (ka _).1 (ka _).2.1 (tkS_ne (s := ⟨0, 10, false, false⟩) (by decide) (by decide)) (tkS_ne (s := ⟨0, 10, false, false⟩) (by decide) (by decide)) (tk_miss (by decide)) (tkS_ne (s := ⟨0, 10, false, false⟩) (by decide) (by decide))) (tkS_ne (s := ⟨0, 10, false, false⟩) (by decide) (by decide)) (by omega)) (tkS_yes (by decide) rfl) (s1 (f := g + 17) (up2 (B (g + 4) (by omega)) (kb _).1 (kb _).2.1 (cl 4 rest) (cl 3 rest) (clI rest) (cl 2 rest)) (cl 1 rest) (by omega)) (hj 0) (cl 0 rest) (by omega)
      exact C
    · have C := c3 (f := g + 15) (s := ⟨2, 11, false, false⟩) (up4 (A (g + 4) (by omega)) (ka _).1 (tkS_ne (s := ⟨2, 11, false, false⟩) (by decide) (by decide)) (tkS_ne (s := ⟨2, 11, false, false⟩) (by decide) (by decide))) (tk_miss (by decide)) (tkS_yes (by decide) rfl) (up4 (B (g + 4) (by omega)) (kb _).1 (cl 4 rest) (cl 3 rest)) (hj 2)
      exact dn3 C (ka _).2.1
    · have C := c3 (f := g + 15) (s := ⟨2, 12, false, false⟩) (up4 (A (g + 4) (by omega)) (ka _).1 (tkS_ne (s := ⟨2, 12, false, false⟩) (by decide) (by decide)) (tkS_ne (s := ⟨2, 12, false, false⟩) (by decide) (by decide))) (tk_miss (by decide)) (tkS_yes (by decide) rfl) (up4 (B (g + 4) (by omega)) (kb _).1 (cl 4 rest) (cl 3 rest)) (hj 2)
      exact dn3 C (ka _).2.1
/-- at the top, where what is behind is no part of it -/
theorem rt_expr (t : Ex) (h : Wf t) (hp : PosE t) (rest : Ws) (hl : (flat t).length ≤ 40) (hr : ∀ k, tkS k rest = none) (hi : tk wIs rest = none) : G (lev FU 0 (wdE t ++ rest) 0) (flat t) rest := by
  have hd := dp_lt t
  have k := hd_tk h hp rest
  have A : G (lev 993 7 (wdE t ++ rest) 0) (flat t) rest := rt_atom t h hp 993 0 rest (by omega) hl (by omega)
  have B : G (lev 998 2 (wdE t ++ rest) 0) (flat t) rest := up2 (f := 993) A k.1 k.2.1 (hr 4) (hr 3) hi (hr 2)
  have C : G (lev 999 1 (wdE t ++ rest) 0) (flat t) rest := s1 (f := 998) B (hr 1) (by omega)
  exact s0 (f := 999) C (hr 0) (by omega)
end Go.Proofs.YteaanpdckkmjoaaGreatDoor
/- What is read has no number below nought. Conditions: none. -/
namespace Go.Proofs.YteaanpdckkmjoaaGreatDoor
set_option linter.unusedVariables false
set_option linter.unusedSimpArgs false

def NNl (l : List Nd) : Prop := ∀ n ∈ l, n.op = 1 → 0 ≤ n.v
theorem mv_v (c : Int) (n : Nd) : (mv c n).v = n.v := by
  unfold mv
  repeat' split
  all_goals rfl
theorem nn_nil : NNl [] := fun n h => by simp at h
theorem nn_join1 {op : Int} {l : List Nd} (h : NNl l) : NNl (join1 op l) := fun n hn ho => by
  rcases List.mem_append.1 hn with hn | hn
  · exact h n hn ho
  · rw [List.mem_singleton.1 hn]; exact Int.le_refl 0
theorem nn_joinL {op : Int} {l m : List Nd} (h : NNl l) (h2 : NNl m) : NNl (joinL op l m) := fun n hn ho => by
  rcases List.mem_append.1 hn with hn | hn
  · rcases List.mem_append.1 hn with hn | hn
    · exact h n hn ho
    · obtain ⟨k, hk, rfl⟩ := List.mem_map.1 hn
      rw [mv_v]
      exact h2 k hk (by rw [mv_op] at ho; exact ho)
  · rw [List.mem_singleton.1 hn]; exact Int.le_refl 0
theorem nn_pos : ∀ t : Ex, NNl (flat t) → PosE t
  | .cst k v, h => h ⟨1, 0, 0, 0, k, v⟩ (by simp [flat]) rfl
  | .fld n, h => trivial
  | .one op a, h => nn_pos a (fun n hn ho => h n (List.mem_append.2 (.inl hn)) ho)
  | .two op a b, h => ⟨nn_pos a (fun n hn ho => h n (List.mem_append.2 (.inl (List.mem_append.2 (.inl hn)))) ho),
    nn_pos b (fun n hn ho => by
      have := h (mv (flat a).length n) (List.mem_append.2 (.inl (List.mem_append.2 (.inr (List.mem_map_of_mem hn))))) (by rw [mv_op]; exact ho)
      rw [mv_v] at this
      exact this)⟩
def PN (r : PR) : Prop := ∀ l ws', r = .ok (l, ws') → NNl l
theorem pn_err {c : Int} : PN (.error c) := fun l ws' e => by cases e
theorem pn_ok {l : List Nd} {ws : Ws} (h : NNl l) : PN (.ok (l, ws)) := fun l' ws' e => by cases e; exact h
def PJ (r : Except Int (List Nd)) : Prop := ∀ l, r = .ok l → NNl l
theorem pj_1 {op : Int} {l : List Nd} (h : NNl l) : PJ (jn1 op l) := fun z e => by
  unfold jn1 at e
  split at e
  · cases e
  · cases e; exact nn_join1 h
theorem pj_2 {op : Int} {l m : List Nd} (h : NNl l) (h2 : NNl m) : PJ (jn2 op l m) := fun z e => by
  unfold jn2 at e
  split at e
  · cases e
  · cases e; exact nn_joinL h h2
theorem pj_D {dn : Bool} {r : Except Int (List Nd)} (h : PJ r) : PJ (jnD dn r) := fun z e => by
  unfold jnD at e
  cases r with
  | error c => cases e
  | ok l =>
    simp only at e
    split at e
    · exact pj_1 (h l rfl) z e
    · injection e with e
      rw [← e]
      exact h l rfl
theorem pj_S {s : Sg} {x y : List Nd} (h : NNl x) (h2 : NNl y) : PJ (jnS s x y) := by
  unfold jnS
  apply pj_D
  split
  · exact pj_2 h2 h
  · exact pj_2 h h2
theorem pn_wth {ws : Ws} {r : Except Int (List Nd)} (h : PJ r) : PN (wth ws r) := by
  unfold wth
  cases r with
  | error c => exact pn_err
  | ok l => exact pn_ok (h l rfl)
theorem rowL_pn (inner : Ws → PR) (rank : Int) (hin : ∀ ws, PN (inner ws)) : ∀ (k : Nat) (x : List Nd) (ws : Ws), NNl x → PN (rowL inner rank k x ws)
  | 0, _, _, _ => pn_err
  | k + 1, x, ws, hx => by
    unfold rowL
    cases hs : tkS rank ws with
    | none => exact pn_ok hx
    | some p =>
      obtain ⟨s, ws1⟩ := p
      simp only
      cases hi : inner ws1 with
      | error c => exact pn_err
      | ok q =>
        obtain ⟨y, ws2⟩ := q
        simp only
        cases hz : jnS s x y with
        | error c => exact pn_err
        | ok z => exact rowL_pn inner rank hin k z ws2 (pj_S hx (hin ws1 y ws2 hi) z hz)
theorem rowP_pn (inner : Ws → PR) (rank : Int) (k : Nat) (ws : Ws) (hin : ∀ ws, PN (inner ws)) : PN (rowP inner rank k ws) := by
  unfold rowP
  cases hi : inner ws with
  | error c => exact pn_err
  | ok p =>
    obtain ⟨x, ws1⟩ := p
    exact rowL_pn inner rank hin k x ws1 (hin ws x ws1 hi)
theorem deep_pn (inner : Ws → Nat → PR) (ws : Ws) (d : Nat) (h : ∀ d', PN (inner ws d')) : PN (deepP inner ws d) := by
  unfold deepP
  split
  · exact pn_err
  · exact h _
theorem ahead_pn (op : Int) (r : PR) (h : PN r) : PN (aheadP op r) := by
  unfold aheadP
  cases r with
  | error c => exact pn_err
  | ok p => obtain ⟨x, ws1⟩ := p; exact pn_wth (pj_1 (h x ws1 rfl))
theorem null_pn (x : List Nd) (dn : Bool) (ws : Ws) (h : NNl x) : PN (nullP x dn ws) := by
  unfold nullP
  cases ht : tk wNull ws with
  | none => exact pn_err
  | some ws1 => exact pn_wth (pj_D (pj_1 h))
theorem cmp_pn (inner : Ws → PR) (x : List Nd) (ws : Ws) (hx : NNl x) (hin : ∀ ws, PN (inner ws)) : PN (cmpP inner x ws) := by
  unfold cmpP
  cases ht : tk wIs ws with
  | some ws1 =>
    simp only
    unfold isP
    cases hn : tk wNot ws1 with
    | some ws2 => exact null_pn _ _ _ hx
    | none => exact null_pn _ _ _ hx
  | none =>
    simp only
    cases hs : tkS 2 ws with
    | none => exact pn_ok hx
    | some p =>
      obtain ⟨s, ws1⟩ := p
      simp only
      cases hi : inner ws1 with
      | error c => exact pn_err
      | ok q =>
        obtain ⟨y, ws2⟩ := q
        exact pn_wth (pj_S hx (hin ws1 y ws2 hi))
theorem close_pn (r : PR) (h : PN r) : PN (closeP r) := by
  unfold closeP
  cases r with
  | error c => exact pn_err
  | ok p =>
    obtain ⟨x, ws1⟩ := p
    simp only
    cases ht : tk wClose ws1 with
    | none => exact pn_err
    | some ws2 => exact pn_ok (h x ws1 rfl)
theorem leafQ_nn {w : ByteArray} {n : Nd} (h : leafQ w = some n) : NNl [n] := fun m hm ho => by
  rw [List.mem_singleton.1 hm]
  unfold leafQ at h
  cases hf : fldQ w with
  | some i => rw [hf] at h; simp only at h; cases h; exact Int.le_refl 0
  | none =>
    rw [hf] at h
    simp only at h
    by_cases q0 : w = wNull
    · rw [if_pos q0] at h; cases h; exact Int.le_refl 0
    · rw [if_neg q0] at h
      by_cases q1 : w = wFalse
      · rw [if_pos q1] at h; cases h; exact Int.le_refl 0
      · rw [if_neg q1] at h
        by_cases q2 : w = wTrue
        · rw [if_pos q2] at h; cases h; show (0 : Int) ≤ 1; decide
        · rw [if_neg q2] at h
          cases hq : numQ 1000000000 w with
          | none => rw [hq] at h; cases h
          | some v => rw [hq] at h; cases h; exact Int.natCast_nonneg v
theorem leaf_pn (ws : Ws) : PN (leafP ws) := by
  cases ws with
  | nil => exact pn_err
  | cons w r =>
    simp only [leafP]
    cases h : leafQ w with
    | none => exact pn_err
    | some n => exact pn_ok (leafQ_nn h)
theorem lev_pn : ∀ (f n : Nat) (ws : Ws) (d : Nat), n ≤ 7 → PN (lev f n ws d) := by
  intro f
  induction f with
  | zero => intro n ws d hn; exact fun l ws' e => by simp [lev] at e
  | succ f ih =>
    intro n ws d hn
    match n, hn with
    | 0, _ => exact rowP_pn _ _ _ _ (fun ws' => ih 1 ws' d (by omega))
    | 1, _ => exact rowP_pn _ _ _ _ (fun ws' => ih 2 ws' d (by omega))
    | 2, _ =>
      show PN (match tk wNot ws with
        | some ws1 => aheadP 4 (deepP (fun ws d => lev f 2 ws d) ws1 d)
        | none => lev f 3 ws d)
      cases ht : tk wNot ws with
      | some ws1 => exact ahead_pn _ _ (deep_pn _ _ _ (fun d' => ih 2 ws1 d' (by omega)))
      | none => exact ih 3 ws d (by omega)
    | 3, _ =>
      have hf := ih 4 ws d (by omega)
      show PN (match lev f 4 ws d with
        | .error c => .error c
        | .ok (x, ws1) => cmpP (fun ws => lev f 4 ws d) x ws1)
      cases hi : lev f 4 ws d with
      | error c => exact pn_err
      | ok p =>
        obtain ⟨x, ws1⟩ := p
        exact cmp_pn _ x ws1 (hf x ws1 hi) (fun ws' => ih 4 ws' d (by omega))
    | 4, _ => exact rowP_pn _ _ _ _ (fun ws' => ih 5 ws' d (by omega))
    | 5, _ => exact rowP_pn _ _ _ _ (fun ws' => ih 6 ws' d (by omega))
    | 6, _ =>
      show PN (match tk wMinus ws with
        | some ws1 => aheadP 3 (deepP (fun ws d => lev f 6 ws d) ws1 d)
        | none => lev f 7 ws d)
      cases ht : tk wMinus ws with
      | some ws1 => exact ahead_pn _ _ (deep_pn _ _ _ (fun d' => ih 6 ws1 d' (by omega)))
      | none => exact ih 7 ws d (by omega)
    | 7, _ =>
      show PN (match tk wOpen ws with
        | some ws1 => closeP (deepP (fun ws d => lev f 0 ws d) ws1 d)
        | none => leafP ws)
      cases ht : tk wOpen ws with
      | some ws1 => exact close_pn _ (deep_pn _ _ _ (fun d' => ih 0 ws1 d' (by omega)))
      | none => exact leaf_pn ws

/-! A whole question. -/
theorem expr_nn (st : St) : NNl (exprS st).1 := by
  cases st with
  | error c => exact nn_nil
  | ok ws =>
    cases h : lev FU 0 ws 0 with
    | error c => simp only [exprS, h]; exact nn_nil
    | ok p =>
      obtain ⟨l, r⟩ := p
      simp only [exprS, h]
      exact lev_pn FU 0 ws 0 (by decide) l r h
theorem agg_nn (st : St) : NNl (aggS st).1.of := by
  unfold aggS
  split
  · exact nn_nil
  · exact expr_nn _
theorem aggs_nn : ∀ (k : Nat) (l : List AgQ) (st : St), (∀ a ∈ l, NNl a.of) → ∀ a ∈ (aggsS k l st).1, NNl a.of
  | 0, l, .error c, h => h
  | 0, l, .ok ws, h => h
  | k + 1, l, st, h => by
    unfold aggsS
    split
    · refine aggs_nn k _ _ (fun a ha => ?_)
      rcases List.mem_append.1 ha with ha | ha
      · exact h a ha
      · rw [List.mem_singleton.1 ha]; exact agg_nn _
    · exact h
theorem where_nn (st : St) : NNl (whereS st).1 := by
  unfold whereS
  split
  · exact expr_nn _
  · exact nn_nil
theorem group_nn (st : St) : NNl (groupS st).1 := by
  unfold groupS
  split
  · exact expr_nn _
  · exact nn_nil
structure QNN (q : Qy) : Prop where
  ag : ∀ a ∈ q.aggs, NNl a.of
  wh : NNl q.wh
  by_ : NNl q.bys
theorem quest_nn (ws : Ws) : QNN (questS ws).1 := ⟨aggs_nn FU _ _ (fun a ha => by rw [List.mem_singleton.1 ha]; exact agg_nn _), where_nn _, group_nn _⟩
theorem parse_nn {s : ByteArray} {q : Qy} (h : parseQ s = .ok q) : QNN q ∧ chkQ q = 0 := by
  unfold parseQ at h
  by_cases h1 : (lexT s).1 ≠ 0
  · rw [if_pos h1] at h; cases h
  · rw [if_neg h1, quest_run] at h
    cases hst : (questS (lexT s).2).2 with
    | error c => rw [hst] at h; cases h
    | ok r =>
      rw [hst] at h
      simp only [runK] at h
      by_cases h2 : chkQ (questS (lexT s).2).1 ≠ 0
      · rw [if_pos h2] at h; cases h
      · rw [if_neg h2] at h
        cases h
        exact ⟨quest_nn _, Decidable.not_not.1 h2⟩
end Go.Proofs.YteaanpdckkmjoaaGreatDoor
/- The words of a question's text are read as it, or it is too deep. Conditions: numbers are not below nought. -/
namespace Go.Proofs.YteaanpdckkmjoaaGreatDoor
set_option linter.unusedVariables false
set_option linter.unusedSimpArgs false

abbrev AgT := Int × Ex
def toAg (p : AgT) : AgQ := if p.1 = 1 then ⟨1, []⟩ else ⟨p.1, flat p.2⟩
structure ExOk (t : Ex) : Prop where
  wf : Wf t
  pos : PosE t
  len : (flat t).length ≤ 40
def okT (p : AgT) : Prop := p.1 = 1 ∨ (2 ≤ p.1 ∧ p.1 ≤ 5 ∧ ExOk p.2)
def wdA (p : AgT) : Ws := if p.1 = 1 then [wCount, wOpen, wStar, wClose] else nmB p.1 :: wOpen :: (wdE p.2 ++ [wClose])
def wdAs : List AgT → Ws
  | [] => []
  | p :: l => wComma :: (wdA p ++ wdAs l)
def optL : Option Ex → List Nd
  | none => []
  | some t => flat t
def okO : Option Ex → Prop
  | none => True
  | some t => ExOk t
def wdW : Option Ex → Ws
  | none => []
  | some t => wWhere :: wdE t
def wdG : Option Ex → Ws
  | none => []
  | some t => wGroup :: wBy :: wdE t
def wdT (s1 s2 s3 s4 : Int) : Ws := [wWindow, decB s1, wSlide, decB s2, wDelay, decB s3, wLate, decB s4]
def wdQ (p : AgT) (ps : List AgT) (w g : Option Ex) (s1 s2 s3 s4 : Int) : Ws := wSelect :: (wdA p ++ (wdAs ps ++ wFrom :: wEvents :: (wdW w ++ (wdG g ++ wdT s1 s2 s3 s4))))
def qyT (p : AgT) (ps : List AgT) (w g : Option Ex) (s1 s2 s3 s4 : Int) : Qy := ⟨toAg p :: ps.map toAg, optL w, optL g, s1, s2, s3, s4⟩
theorem must_hit (w : ByteArray) (r : Ws) : mustS w (.ok (w :: r)) = .ok r := mustS_some (tk_hit w r)
theorem take_hit (w : ByteArray) (r : Ws) : takeS w (.ok (w :: r)) = (true, .ok r) := takeS_some (tk_hit w r)
theorem take_miss {w v : ByteArray} {r : Ws} (h : v ≠ w) : takeS w (.ok (v :: r)) = (false, .ok (v :: r)) := takeS_none (tk_miss h)
/-- what may stand behind an expression -/
structure Stop (rest : Ws) : Prop where
  s : ∀ k, tkS k rest = none
  i : tk wIs rest = none
theorem stop_of {w : ByteArray} {r : Ws} (h : sgOf w = none) (h2 : w ≠ wIs) : Stop (w :: r) := ⟨fun k => tkS_no h, tk_miss h2⟩
theorem rt_exprS (t : Ex) (h : ExOk t) (rest : Ws) (hs : Stop rest) : exprS (.ok (wdE t ++ rest)) = (flat t, .ok rest) ∨ (exprS (.ok (wdE t ++ rest))).2 = .error 2 := by
  rcases rt_expr t h.wf h.pos rest h.len hs.s hs.i with e | e
  · left
    simp only [exprS, e]
  · right
    simp only [exprS, e]
theorem must_e2 (w : ByteArray) {st : St} (h : st = .error 2) : mustS w st = .error 2 := by rw [h]; rfl
theorem aggK_nm {k : Int} (h1 : 2 ≤ k) (h2 : k ≤ 5) (r : Ws) : aggK (nmB k :: r) = some (k, r) := by
  have : k = 2 ∨ k = 3 ∨ k = 4 ∨ k = 5 := by omega
  rcases this with rfl | rfl | rfl | rfl
  · have e : tk wCount (nmB 2 :: r) = some r := tk_hit _ _
    simp only [aggK, e]
  · have e0 : tk wCount (nmB 3 :: r) = none := tk_miss (by decide)
    have e : tk wSum (nmB 3 :: r) = some r := tk_hit _ _
    simp only [aggK, e0, e]
  · have e0 : tk wCount (nmB 4 :: r) = none := tk_miss (by decide)
    have e1 : tk wSum (nmB 4 :: r) = none := tk_miss (by decide)
    have e : tk wMin (nmB 4 :: r) = some r := tk_hit _ _
    simp only [aggK, e0, e1, e]
  · have e0 : tk wCount (nmB 5 :: r) = none := tk_miss (by decide)
    have e1 : tk wSum (nmB 5 :: r) = none := tk_miss (by decide)
    have e2 : tk wMin (nmB 5 :: r) = none := tk_miss (by decide)
    have e : tk wMax (nmB 5 :: r) = some r := tk_hit _ _
    simp only [aggK, e0, e1, e2, e]
theorem rt_agg (p : AgT) (h : okT p) (rest : Ws) : aggS (.ok (wdA p ++ rest)) = (toAg p, .ok rest) ∨ (aggS (.ok (wdA p ++ rest))).2 = .error 2 := by
  obtain ⟨k, t⟩ := p
  by_cases h1 : k = 1
  · subst h1
    left
    have e : wdA (1, t) ++ rest = wCount :: wOpen :: wStar :: wClose :: rest := rfl
    have ea : aggKS (.ok (wCount :: wOpen :: wStar :: wClose :: rest)) = (2, .ok (wOpen :: wStar :: wClose :: rest)) := by
      have := aggK_nm (k := 2) (by decide) (by decide) (wOpen :: wStar :: wClose :: rest)
      have e9 : nmB 2 = wCount := by decide
      rw [e9] at this
      simp only [aggKS, this]
    rw [e]
    unfold aggS
    rw [ea]
    simp only [must_hit, take_hit, and_self, if_true]
    rfl
  · rcases h with h | ⟨h2, h3, h4⟩
    · exact absurd h h1
    · have e : wdA (k, t) ++ rest = nmB k :: wOpen :: (wdE t ++ wClose :: rest) := by
        unfold wdA
        simp [h1]
      have ea : aggKS (.ok (nmB k :: wOpen :: (wdE t ++ wClose :: rest))) = (k, .ok (wOpen :: (wdE t ++ wClose :: rest))) := by simp only [aggKS, aggK_nm h2 h3]
      have et : toAg (k, t) = ⟨k, flat t⟩ := by unfold toAg; rw [if_neg h1]
      have es : (takeS wStar (.ok (wdE t ++ wClose :: rest))).1 = false := by rw [takeS_none (hd_tk h4.wf h4.pos _).2.2]
      rw [e, et]
      unfold aggS
      rw [ea]
      simp only [must_hit, es, Bool.false_eq_true, and_false, if_false]
      rcases rt_exprS t h4 (wClose :: rest) (stop_of (by decide) (by decide)) with e9 | e9
      · left
        rw [e9]
        simp only [must_hit]
      · right
        exact must_e2 _ e9
theorem agg_e2 {st : St} (h : st = .error 2) : (aggS st).2 = .error 2 := by rw [h]; rfl
theorem rt_aggs : ∀ (ps : List AgT) (l : List AgQ) (k : Nat) (rest : Ws), (∀ p ∈ ps, okT p) → tk wComma rest = none → ps.length < k → aggsS k l (.ok (wdAs ps ++ rest)) = (l ++ ps.map toAg, .ok rest) ∨ (aggsS k l (.ok (wdAs ps ++ rest))).2 = .error 2
  | [], l, k, rest, h, hr, hk => by
    obtain ⟨j, rfl⟩ : ∃ j, k = j + 1 := ⟨k - 1, by omega⟩
    left
    show aggsS (j + 1) l (.ok rest) = _
    simp [aggsS, takeS_none hr]
  | p :: ps, l, k, rest, h, hr, hk => by
    obtain ⟨j, rfl⟩ : ∃ j, k = j + 1 := ⟨k - 1, by omega⟩
    have e : wdAs (p :: ps) ++ rest = wComma :: (wdA p ++ (wdAs ps ++ rest)) := by simp [wdAs]
    rw [e]
    simp only [aggsS, take_hit, if_true]
    rcases rt_agg p (h p (List.mem_cons_self ..)) (wdAs ps ++ rest) with e9 | e9
    · rw [e9]
      have ih := rt_aggs ps (l ++ [toAg p]) j rest (fun q hq => h q (List.mem_cons_of_mem _ hq)) hr (by simp at hk; omega)
      simpa using ih
    · right
      rw [e9, aggsS_err]
theorem rt_where (w : Option Ex) (h : okO w) (rest : Ws) (hs : Stop rest) (hw : tk wWhere rest = none) : whereS (.ok (wdW w ++ rest)) = (optL w, .ok rest) ∨ (whereS (.ok (wdW w ++ rest))).2 = .error 2 := by
  cases w with
  | none =>
    left
    show whereS (.ok rest) = _
    simp [whereS, takeS_none hw, optL]
  | some t =>
    have e : wdW (some t) ++ rest = wWhere :: (wdE t ++ rest) := rfl
    rw [e]
    simp only [whereS, take_hit, if_true]
    exact rt_exprS t h rest hs
theorem rt_group (w : Option Ex) (h : okO w) (rest : Ws) (hs : Stop rest) (hw : tk wGroup rest = none) : groupS (.ok (wdG w ++ rest)) = (optL w, .ok rest) ∨ (groupS (.ok (wdG w ++ rest))).2 = .error 2 := by
  cases w with
  | none =>
    left
    show groupS (.ok rest) = _
    simp [groupS, takeS_none hw, optL]
  | some t =>
    have e : wdG (some t) ++ rest = wGroup :: wBy :: (wdE t ++ rest) := rfl
    rw [e]
    simp only [groupS, take_hit, if_true, must_hit]
    exact rt_exprS t h rest hs
theorem rt_span (n : Int) (h0 : 0 ≤ n) (h1 : n ≤ 1000) (r : Ws) : spanS (.ok (decB n :: r)) = (n, .ok r) := by
  have e : decB n = ⟨(Lib.decDigits n.toNat).toArray⟩ := by unfold decB; rw [itoa_pos n h0]
  have hd := (digs n.toNat (by omega)).2 1000 (by omega) (by omega)
  rw [e]
  simp only [spanS, hd]
  rw [show ((n.toNat : Nat) : Int) = n by omega]
theorem rt_opt (word : ByteArray) (d n : Int) (h0 : 0 ≤ n) (h1 : n ≤ 1000) (r : Ws) : optS word d (.ok (word :: decB n :: r)) = (n, .ok r) := by
  simp only [optS, take_hit, if_true]
  exact rt_span n h0 h1 r
theorem stopT (s1 s2 s3 s4 : Int) : Stop (wdT s1 s2 s3 s4) := stop_of (by decide) (by decide)
theorem stopG (g : Option Ex) (s1 s2 s3 s4 : Int) : Stop (wdG g ++ wdT s1 s2 s3 s4) := by
  cases g with
  | none => exact stopT s1 s2 s3 s4
  | some t => exact stop_of (by decide) (by decide)
theorem where_none (g : Option Ex) (s1 s2 s3 s4 : Int) : tk wWhere (wdG g ++ wdT s1 s2 s3 s4) = none := by
  cases g with
  | none => exact tk_miss (by decide)
  | some t => exact tk_miss (by decide)
/-- the words of a question are read as it, or it is too deep -/
theorem rt_quest (p : AgT) (ps : List AgT) (w g : Option Ex) (s1 s2 s3 s4 : Int) (hp : okT p) (hps : ∀ q ∈ ps, okT q) (hl : ps.length ≤ 10) (hw : okO w) (hg : okO g) (h1 : 0 ≤ s1 ∧ s1 ≤ 1000) (h2 : 0 ≤ s2 ∧ s2 ≤ 1000) (h3 : 0 ≤ s3 ∧ s3 ≤ 1000) (h4 : 0 ≤ s4 ∧ s4 ≤ 1000) :
    questS (wdQ p ps w g s1 s2 s3 s4) = (qyT p ps w g s1 s2 s3 s4, .ok []) ∨ (questS (wdQ p ps w g s1 s2 s3 s4)).2 = .error 2 := by
  unfold questS wdQ
  simp only [must_hit]
  rcases (rt_agg p hp (wdAs ps ++ wFrom :: wEvents :: (wdW w ++ (wdG g ++ wdT s1 s2 s3 s4)))).symm with e | e
  · right
    simp only [e, aggsS_err]
    rfl
  · simp only [e]
    rcases rt_aggs ps [toAg p] FU (wFrom :: wEvents :: (wdW w ++ (wdG g ++ wdT s1 s2 s3 s4))) hps (tk_miss (by decide)) (by unfold FU; omega) with e | e
    · simp only [e, must_hit]
      rcases rt_where w hw _ (stopG g s1 s2 s3 s4) (where_none g s1 s2 s3 s4) with e | e
      · simp only [e]
        rcases rt_group g hg _ (stopT s1 s2 s3 s4) (tk_miss (by decide)) with e | e
        · left
          simp only [e]
          unfold wdT
          simp only [must_hit, rt_span s1 h1.1 h1.2, rt_opt wSlide _ s2 h2.1 h2.2, rt_opt wDelay _ s3 h3.1 h3.2, rt_opt wLate _ s4 h4.1 h4.2]
          rfl
        · right
          simp only [e]
          rfl
      · right
        simp only [e]
        rfl
    · right
      simp only [e]
      rfl
end Go.Proofs.YteaanpdckkmjoaaGreatDoor
/- A question's text falls into its words, or there are too many. Conditions: numbers are not below nought. -/
namespace Go.Proofs.YteaanpdckkmjoaaGreatDoor
set_option linter.unusedVariables false
set_option linter.unusedSimpArgs false

def bL (s : ByteArray) : List UInt8 := s.data.toList
theorem bL_app (a b : ByteArray) : bL (a ++ b) = bL a ++ bL b := by simp [bL]
theorem bL_mk (l : List UInt8) : bL ⟨l.toArray⟩ = l := by simp [bL]
/-- these bytes, at a text's end, fall into these words -/
def LX (bs : List UInt8) (ws : Ws) : Prop := ∀ (t : ByteArray) (a f : Nat) (acc : Ws), t.data.toList.drop a = bs → a ≤ t.size → t.size - a ≤ f → acc.length ≤ 80 → lexF t f a acc = if acc.length + ws.length ≤ 80 then (0, acc ++ ws) else (2, [])
theorem lx_nil : LX [] [] := fun t a f acc hd ha hf hn => by
  have : t.size ≤ a := by
    have h2 := List.drop_eq_nil_iff.1 hd
    have := Lib.size_eq t
    omega
  rw [if_pos (by simpa using hn), List.append_nil]
  cases f with
  | zero => rfl
  | succ f => unfold lexF; rw [if_neg (by omega)]
theorem drop_len {t : ByteArray} {a : Nat} {l r : List UInt8} (hd : t.data.toList.drop a = l ++ r) (ha : a ≤ t.size) : a + l.length + r.length = t.size := by
  have := congrArg List.length hd
  simp at this
  have := Lib.size_eq t
  simp at this
  omega
theorem drop_more {t : ByteArray} {a : Nat} {l r : List UInt8} (hd : t.data.toList.drop a = l ++ r) : t.data.toList.drop (a + l.length) = r := by
  rw [← List.drop_drop, hd]
  simp
theorem lx_blank {bs : List UInt8} {ws : Ws} (h : LX bs ws) : LX (32 :: bs) ws := fun t a f acc hd ha hf hn => by
  have hd' : t.data.toList.drop a = [32] ++ bs := hd
  have hlen := drop_len hd' ha
  have hb := bt_at t a [32] bs hd' 0 (by simp)
  simp at hb hlen
  obtain ⟨f, rfl⟩ : ∃ g, f = g + 1 := ⟨f - 1, by omega⟩
  rw [lexF, if_pos (by omega), if_pos hb]
  exact h t (a + 1) f acc (drop_more hd') (by omega) (by omega) hn
theorem lx_word {l bs : List UInt8} {ws : Ws} (hl : l ≠ []) (hw : ∀ (t : ByteArray) (a : Nat), t.data.toList.drop a = l ++ bs → a ≤ t.size → wl t a = l.length ∧ bt t a ≠ 32) (h : LX bs ws) : LX (l ++ bs) (⟨l.toArray⟩ :: ws) := fun t a f acc hd ha hf hn => by
  obtain ⟨e1, e2⟩ := hw t a hd ha
  have hlen := drop_len hd ha
  have hp : 0 < l.length := List.length_pos_iff.2 hl
  have hx : t.extract a (a + wl t a) = ⟨l.toArray⟩ := by
    rw [Lib.extract_eq, e1, show a + l.length - a = l.length by omega, hd]
    simp
  obtain ⟨f, rfl⟩ : ∃ g, f = g + 1 := ⟨f - 1, by omega⟩
  rw [lexF, if_pos (by omega), if_neg e2, if_neg (by omega)]
  by_cases h80 : acc.length = 80
  · rw [if_pos h80, if_neg (by simp; omega)]
  · rw [if_neg h80, hx, e1, h t (a + l.length) f (acc ++ [(⟨l.toArray⟩ : ByteArray)]) (drop_more hd) (by omega) (by omega) (by simp; omega)]
    simp only [List.length_append, List.length_cons, List.length_nil, List.append_assoc, List.cons_append, List.nil_append]
    congr 1
    simp only [eq_iff_iff]
    omega
theorem end_or {t : ByteArray} {a : Nat} {l bs : List UInt8} (hd : t.data.toList.drop a = l ++ bs) (ha : a ≤ t.size) (p : Int → Bool) (hs : ∀ c r, bs = c :: r → p (c.toNat : Int) = false) : a + l.length = t.size ∨ p (bt t (a + l.length)) = false := by
  cases bs with
  | nil => left; have := drop_len hd ha; simpa using this
  | cons c r => right; rw [bt_behind t a l r c hd]; exact hs c r rfl
theorem lx_run {l bs : List UInt8} {ws : Ws} (p : Int → Bool) (hl : l ≠ []) (hp : ∀ c ∈ l, p (c.toNat : Int) = true) (hs : ∀ c r, bs = c :: r → p (c.toNat : Int) = false)
    (hq : ∀ (t : ByteArray) (a : Nat), p (bt t a) = true → wl t a = run p t a ∧ bt t a ≠ 32) (h : LX bs ws) : LX (l ++ bs) (⟨l.toArray⟩ :: ws) := by
  refine lx_word hl (fun t a hd ha => ?_) h
  have hlen := drop_len hd ha
  have h0 : 0 < l.length := List.length_pos_iff.2 hl
  have hb := bt_at t a l bs hd 0 h0
  rw [Nat.add_zero] at hb
  have q : p (bt t a) = true := by rw [hb]; exact hp _ (List.getElem_mem _)
  obtain ⟨e1, e2⟩ := hq t a q
  refine ⟨?_, e2⟩
  rw [e1, run_of p t a (a + l.length) (by omega) (by omega) ?_ (end_or hd ha p hs)]
  · omega
  · intro j h1 h2
    have := bt_at t a l bs hd (j - a) (by omega)
    rw [show a + (j - a) = j by omega] at this
    rw [this]; exact hp _ (List.getElem_mem _)
theorem lx_let {l bs : List UInt8} {ws : Ws} (hl : l ≠ []) (hp : ∀ c ∈ l, isLet (c.toNat : Int) = true) (hs : ∀ c r, bs = c :: r → isLet (c.toNat : Int) = false) (h : LX bs ws) : LX (l ++ bs) (⟨l.toArray⟩ :: ws) :=
  lx_run isLet hl hp hs (fun t a q => ⟨wq_let t a q, let_not q⟩) h
theorem lx_dig {l bs : List UInt8} {ws : Ws} (hl : l ≠ []) (hp : ∀ c ∈ l, isDig (c.toNat : Int) = true) (hs : ∀ c r, bs = c :: r → isDig (c.toNat : Int) = false) (h : LX bs ws) : LX (l ++ bs) (⟨l.toArray⟩ :: ws) :=
  lx_run isDig hl hp hs (fun t a q => ⟨wq_dig t a (dig_not q).1 q, (dig_not q).2⟩) h
theorem lx_sgn {c : UInt8} {bs : List UInt8} {ws : Ws} (hc : isSgn (c.toNat : Int) = true) (hs : ∀ d r, bs = d :: r → isTwo (c.toNat : Int) (d.toNat : Int) = false) (h : LX bs ws) : LX (c :: bs) (⟨#[c]⟩ :: ws) := by
  refine lx_word (l := [c]) (by simp) (fun t a hd ha => ?_) h
  have hb := bt_at t a [c] bs hd 0 (by simp)
  simp at hb
  have q := sgn_not hc
  rw [← hb] at q hc
  refine ⟨?_, q.2.2⟩
  rw [wq_else t a q.1 q.2.1, if_neg, if_pos hc]
  · rfl
  · rintro ⟨h1, h2⟩
    cases bs with
    | nil =>
      have := drop_len hd ha
      simp at this
      omega
    | cons d r =>
      have h3 := bt_behind t a [c] r d hd
      simp at h3
      rw [h3, hb, hs d r rfl] at h2
      cases h2
theorem two_no {c d : Int} (h1 : c ≠ 60) (h2 : c ≠ 62) : isTwo c d = false := by
  unfold isTwo
  simp [h1, h2]
/-- a sign that begins no longer one -/
theorem lx_s {c : UInt8} {bs : List UInt8} {ws : Ws} (hc : isSgn (c.toNat : Int) = true) (h1 : (c.toNat : Int) ≠ 60) (h2 : (c.toNat : Int) ≠ 62) (h : LX bs ws) : LX (c :: bs) (⟨#[c]⟩ :: ws) := lx_sgn hc (fun d r e => two_no h1 h2) h
/-- neither a letter nor a digit comes next -/
def SB (bs : List UInt8) : Prop := ∀ c r, bs = c :: r → isLet (c.toNat : Int) = false ∧ isDig (c.toNat : Int) = false
theorem sb_of {c : UInt8} {r : List UInt8} (h : isLet (c.toNat : Int) = false ∧ isDig (c.toNat : Int) = false) : SB (c :: r) := fun d q e => by cases e; exact h
theorem sb_nil : SB [] := fun c r e => by cases e
/-- a word of letters, with a blank or a sign behind -/
theorem lx_w {l bs : List UInt8} {ws : Ws} (hl : l ≠ []) (hp : ∀ c ∈ l, isLet (c.toNat : Int) = true) (hs : SB bs) (h : LX bs ws) : LX (l ++ bs) (⟨l.toArray⟩ :: ws) := lx_let hl hp (fun c r e => (hs c r e).1) h
theorem lx_d (u : Nat) (hu : u ≤ 1000000000) {bs : List UInt8} {ws : Ws} (hs : SB bs) (h : LX bs ws) : LX (Lib.decDigits u ++ bs) (⟨(Lib.decDigits u).toArray⟩ :: ws) := by
  obtain ⟨p1, p2, p3⟩ := parse_digits u (by omega)
  exact lx_dig p2 (fun c hc => decide_eq_true (by have := p3 c hc; omega)) (fun c r e => (hs c r e).2) h
theorem lx_num (n : Int) (h0 : 0 ≤ n) (h1 : n ≤ 1000000000) {bs : List UInt8} {ws : Ws} (hs : SB bs) (h : LX bs ws) : LX (bL (decB n) ++ bs) (decB n :: ws) := by
  have e : decB n = ⟨(Lib.decDigits n.toNat).toArray⟩ := by unfold decB; rw [itoa_pos n h0]
  rw [e, bL_mk]
  exact lx_d n.toNat (by omega) hs h
theorem lx_cst (k v : Int) (h : vokB k v = true) (h0 : 0 ≤ v) {bs : List UInt8} {ws : Ws} (hs : SB bs) (hx : LX bs ws) : LX (bL (cstB k v) ++ bs) (⟨(textB k v).toArray⟩ :: ws) := by
  have e : cstB k v = ⟨(textB k v).toArray⟩ := by unfold cstB; rw [if_neg (by omega)]
  rw [e, bL_mk]
  rcases of_decide_eq_true h with ⟨rfl, rfl⟩ | ⟨rfl, -, h2⟩ | ⟨rfl, rfl | rfl⟩
  · exact lx_w (l := [110, 117, 108, 108]) (by simp) (by decide) hs hx
  · have e2 : textB 1 v = Lib.decDigits v.toNat := by unfold textB; rw [if_pos rfl]; exact itoa_pos v h0
    rw [e2]
    exact lx_d v.toNat (by omega) hs hx
  · exact lx_w (l := [102, 97, 108, 115, 101]) (by simp) (by decide) hs hx
  · exact lx_w (l := [116, 114, 117, 101]) (by simp) (by decide) hs hx
theorem lx_fld (n : Int) (h0 : 0 ≤ n) (h4 : n < 4) {bs : List UInt8} {ws : Ws} (hs : SB bs) (hx : LX bs ws) : LX (bL (fldB n) ++ bs) (fldB n :: ws) := by
  have : n = 0 ∨ n = 1 ∨ n = 2 ∨ n = 3 := by omega
  rcases this with rfl | rfl | rfl | rfl
  · exact lx_w (l := [116]) (by simp) (by decide) hs hx
  · exact lx_w (l := [107]) (by simp) (by decide) hs hx
  · exact lx_w (l := [97]) (by simp) (by decide) hs hx
  · exact lx_w (l := [98]) (by simp) (by decide) hs hx
/-- a sign with a blank behind -/
theorem lx_op (op : Int) (h : ar op = 2) {bs : List UInt8} {ws : Ws} (hx : LX bs ws) : LX (bL (sgnB op) ++ 32 :: bs) (sgnB op :: ws) := by
  have hb := lx_blank hx
  have hs : SB (32 :: bs) := sb_of (by decide)
  have two : ∀ (c : UInt8), isTwo (c.toNat : Int) ((32 : UInt8).toNat : Int) = false := fun c => by unfold isTwo; simp
  rcases two_cases h with rfl | rfl | rfl | rfl | rfl | rfl | rfl
  · exact lx_s (c := 43) (by decide) (by decide) (by decide) hb
  · exact lx_s (c := 45) (by decide) (by decide) (by decide) hb
  · exact lx_s (c := 42) (by decide) (by decide) (by decide) hb
  · exact lx_w (l := [97, 110, 100]) (by simp) (by decide) hs hb
  · exact lx_w (l := [111, 114]) (by simp) (by decide) hs hb
  · exact lx_sgn (c := 60) (by decide) (fun d r e => by cases e; exact two 60) hb
  · exact lx_s (c := 61) (by decide) (by decide) (by decide) hb
theorem lx_close {bs : List UInt8} {ws : Ws} (hx : LX bs ws) : LX (41 :: bs) (wClose :: ws) := lx_s (c := 41) (by decide) (by decide) (by decide) hx
theorem lx_open {bs : List UInt8} {ws : Ws} (hx : LX bs ws) : LX (40 :: bs) (wOpen :: ws) := lx_s (c := 40) (by decide) (by decide) (by decide) hx
theorem lx_E : ∀ (t : Ex), Wf t → PosE t → ∀ (bs : List UInt8) (ws : Ws), SB bs → LX bs ws → LX (bL (txE t) ++ bs) (wdE t ++ ws)
  | .cst k v, h, hp, bs, ws, hs, hx => lx_cst k v h hp hs hx
  | .fld n, h, hp, bs, ws, hs, hx => lx_fld n h.1 h.2 hs hx
  | .one op a, h, hp, bs, ws, hs, hx => by
    obtain ⟨h1, h2⟩ : ar op = 1 ∧ Wf a := h
    have hpa : PosE a := hp
    have IH := lx_E a h2 hpa
    have sc : ∀ r, SB (41 :: r) := fun r => sb_of (by decide)
    rcases one_cases h1 with rfl | rfl | rfl
    · have e : bL (txE (.one 3 a)) ++ bs = 40 :: 45 :: 32 :: (bL (txE a) ++ 41 :: bs) := by
        show bL (⟨#[40, 45, 32]⟩ ++ txE a ++ ⟨#[41]⟩) ++ bs = _
        rw [bL_app, bL_app]
        simp [bL]
      have e2 : wdE (.one 3 a) ++ ws = wOpen :: wMinus :: (wdE a ++ wClose :: ws) := by simp [wdE]
      rw [e, e2]
      exact lx_open (lx_s (c := 45) (by decide) (by decide) (by decide) (lx_blank (IH _ _ (sc _) (lx_close hx))))
    · have e : bL (txE (.one 4 a)) ++ bs = 40 :: ([110, 111, 116] ++ 32 :: (bL (txE a) ++ 41 :: bs)) := by
        show bL (⟨#[40, 110, 111, 116, 32]⟩ ++ txE a ++ ⟨#[41]⟩) ++ bs = _
        rw [bL_app, bL_app]
        simp [bL]
      have e2 : wdE (.one 4 a) ++ ws = wOpen :: wNot :: (wdE a ++ wClose :: ws) := by simp [wdE]
      rw [e, e2]
      exact lx_open (lx_w (l := [110, 111, 116]) (by simp) (by decide) (sb_of (by decide)) (lx_blank (IH _ _ (sc _) (lx_close hx))))
    · have e : bL (txE (.one 5 a)) ++ bs = 40 :: (bL (txE a) ++ 32 :: ([105, 115] ++ 32 :: ([110, 117, 108, 108] ++ 41 :: bs))) := by
        show bL (⟨#[40]⟩ ++ txE a ++ ⟨#[32, 105, 115, 32, 110, 117, 108, 108, 41]⟩) ++ bs = _
        rw [bL_app, bL_app]
        simp [bL]
      have e2 : wdE (.one 5 a) ++ ws = wOpen :: (wdE a ++ wIs :: wNull :: wClose :: ws) := by simp [wdE]
      rw [e, e2]
      exact lx_open (IH _ _ (sb_of (by decide)) (lx_blank (lx_w (l := [105, 115]) (by simp) (by decide) (sb_of (by decide)) (lx_blank (lx_w (l := [110, 117, 108, 108]) (by simp) (by decide) (sc _) (lx_close hx))))))
  | .two op a b, h, hp, bs, ws, hs, hx => by
    obtain ⟨h1, h2, h3⟩ : ar op = 2 ∧ Wf a ∧ Wf b := h
    obtain ⟨pa, pb⟩ : PosE a ∧ PosE b := hp
    have IA := lx_E a h2 pa
    have IB := lx_E b h3 pb
    have sc : ∀ r, SB (41 :: r) := fun r => sb_of (by decide)
    have et : txE (.two op a b) = ⟨#[40]⟩ ++ txE a ++ ⟨#[32]⟩ ++ sgnB op ++ ⟨#[32]⟩ ++ txE b ++ ⟨#[41]⟩ := by
      have ho := two_cases h1
      show txO op (txE a) (txE b) = _
      unfold txO
      rw [if_neg (by omega), if_neg (by omega), if_neg (by omega)]
    have e : bL (txE (.two op a b)) ++ bs = 40 :: (bL (txE a) ++ 32 :: (bL (sgnB op) ++ 32 :: (bL (txE b) ++ 41 :: bs))) := by
      rw [et]
      simp only [bL_app]
      simp [bL]
    have e2 : wdE (.two op a b) ++ ws = wOpen :: (wdE a ++ sgnB op :: (wdE b ++ wClose :: ws)) := by simp [wdE]
    rw [e, e2]
    exact lx_open (IA _ _ (sb_of (by decide)) (lx_blank (lx_op op h1 (IB _ _ (sc _) (lx_close hx)))))
end Go.Proofs.YteaanpdckkmjoaaGreatDoor
/- A question that was read is told by a text that is read as it, or it is too long or too deep. Conditions: none. -/
namespace Go.Proofs.YteaanpdckkmjoaaGreatDoor
set_option linter.unusedVariables false
set_option linter.unusedSimpArgs false

theorem lx_nm (k : Int) (h1 : 2 ≤ k) (h2 : k ≤ 5) {bs : List UInt8} {ws : Ws} (hs : SB bs) (hx : LX bs ws) : LX (bL (nmB k) ++ bs) (nmB k :: ws) := by
  have : k = 2 ∨ k = 3 ∨ k = 4 ∨ k = 5 := by omega
  rcases this with rfl | rfl | rfl | rfl
  · exact lx_w (l := [99, 111, 117, 110, 116]) (by simp) (by decide) hs hx
  · exact lx_w (l := [115, 117, 109]) (by simp) (by decide) hs hx
  · exact lx_w (l := [109, 105, 110]) (by simp) (by decide) hs hx
  · exact lx_w (l := [109, 97, 120]) (by simp) (by decide) hs hx
theorem lx_A (p : AgT) (h : okT p) {bs : List UInt8} {ws : Ws} (hx : LX bs ws) : LX (bL (agB (toAg p)) ++ bs) (wdA p ++ ws) := by
  obtain ⟨k, t⟩ := p
  by_cases h1 : k = 1
  · subst h1
    have e : bL (agB (toAg (1, t))) ++ bs = [99, 111, 117, 110, 116] ++ 40 :: 42 :: 41 :: bs := rfl
    have e2 : wdA (1, t) ++ ws = wCount :: wOpen :: wStar :: wClose :: ws := rfl
    rw [e, e2]
    exact lx_w (l := [99, 111, 117, 110, 116]) (by simp) (by decide) (sb_of (by decide)) (lx_open (lx_s (c := 42) (by decide) (by decide) (by decide) (lx_close hx)))
  · rcases h with h | ⟨h2, h3, h4⟩
    · exact absurd h h1
    · have et : toAg (k, t) = ⟨k, flat t⟩ := by unfold toAg; rw [if_neg h1]
      have e : bL (agB (toAg (k, t))) ++ bs = bL (nmB k) ++ 40 :: (bL (txE t) ++ 41 :: bs) := by
        rw [et]
        unfold agB
        rw [if_neg h1]
        simp only [bL_app]
        rw [txL_flat t h4.wf]
        simp [bL]
      have e2 : wdA (k, t) ++ ws = nmB k :: wOpen :: (wdE t ++ wClose :: ws) := by
        unfold wdA
        simp [h1]
      rw [e, e2]
      exact lx_nm k h2 h3 (sb_of (by decide)) (lx_open (lx_E t h4.wf h4.pos _ _ (sb_of (by decide)) (lx_close hx)))
theorem lx_As : ∀ (ps : List AgT), (∀ p ∈ ps, okT p) → ∀ {bs : List UInt8} {ws : Ws}, LX bs ws → LX (Lib.joinTail [44, 32] (ps.map fun p => bL (agB (toAg p))) ++ bs) (wdAs ps ++ ws)
  | [], _, bs, ws, hx => hx
  | p :: ps, h, bs, ws, hx => by
    have e : Lib.joinTail [44, 32] ((p :: ps).map fun p => bL (agB (toAg p))) ++ bs = 44 :: 32 :: (bL (agB (toAg p)) ++ (Lib.joinTail [44, 32] (ps.map fun p => bL (agB (toAg p))) ++ bs)) := by
      simp [Lib.joinTail]
    have e2 : wdAs (p :: ps) ++ ws = wComma :: (wdA p ++ (wdAs ps ++ ws)) := by simp [wdAs]
    rw [e, e2]
    exact lx_s (c := 44) (by decide) (by decide) (by decide) (lx_blank (lx_A p (h p (List.mem_cons_self ..)) (lx_As ps (fun q hq => h q (List.mem_cons_of_mem _ hq)) hx)))
def bW : Option Ex → List UInt8
  | none => []
  | some t => [32, 119, 104, 101, 114, 101, 32] ++ bL (txE t)
def bG : Option Ex → List UInt8
  | none => []
  | some t => [32, 103, 114, 111, 117, 112, 32, 98, 121, 32] ++ bL (txE t)
theorem lx_W (w : Option Ex) (h : okO w) {bs : List UInt8} {ws : Ws} (hs : SB bs) (hx : LX bs ws) : LX (bW w ++ bs) (wdW w ++ ws) := by
  cases w with
  | none => exact hx
  | some t =>
    have e : bW (some t) ++ bs = 32 :: ([119, 104, 101, 114, 101] ++ 32 :: (bL (txE t) ++ bs)) := by simp [bW]
    rw [e]
    exact lx_blank (lx_w (l := [119, 104, 101, 114, 101]) (by simp) (by decide) (sb_of (by decide)) (lx_blank (lx_E t h.wf h.pos _ _ hs hx)))
theorem lx_G (w : Option Ex) (h : okO w) {bs : List UInt8} {ws : Ws} (hs : SB bs) (hx : LX bs ws) : LX (bG w ++ bs) (wdG w ++ ws) := by
  cases w with
  | none => exact hx
  | some t =>
    have e : bG (some t) ++ bs = 32 :: ([103, 114, 111, 117, 112] ++ 32 :: ([98, 121] ++ 32 :: (bL (txE t) ++ bs))) := by simp [bG]
    rw [e]
    exact lx_blank (lx_w (l := [103, 114, 111, 117, 112]) (by simp) (by decide) (sb_of (by decide)) (lx_blank (lx_w (l := [98, 121]) (by simp) (by decide) (sb_of (by decide)) (lx_blank (lx_E t h.wf h.pos _ _ hs hx)))))
def bT (s1 s2 s3 s4 : Int) : List UInt8 := 32 :: ([119, 105, 110, 100, 111, 119] ++ 32 :: (bL (decB s1) ++ 32 :: ([115, 108, 105, 100, 101] ++ 32 :: (bL (decB s2) ++ 32 :: ([100, 101, 108, 97, 121] ++ 32 :: (bL (decB s3) ++ 32 :: ([108, 97, 116, 101] ++ 32 :: (bL (decB s4) ++ []))))))))
theorem lx_T (s1 s2 s3 s4 : Int) (h1 : 0 ≤ s1 ∧ s1 ≤ 1000) (h2 : 0 ≤ s2 ∧ s2 ≤ 1000) (h3 : 0 ≤ s3 ∧ s3 ≤ 1000) (h4 : 0 ≤ s4 ∧ s4 ≤ 1000) : LX (bT s1 s2 s3 s4) (wdT s1 s2 s3 s4) := by
  have s : ∀ r, SB (32 :: r) := fun r => sb_of (by decide)
  exact lx_blank (lx_w (l := [119, 105, 110, 100, 111, 119]) (by simp) (by decide) (s _) (lx_blank (lx_num s1 h1.1 (by omega) (s _) (lx_blank (lx_w (l := [115, 108, 105, 100, 101]) (by simp) (by decide) (s _) (lx_blank (lx_num s2 h2.1 (by omega) (s _) (lx_blank (lx_w (l := [100, 101, 108, 97, 121]) (by simp) (by decide) (s _) (lx_blank (lx_num s3 h3.1 (by omega) (s _) (lx_blank (lx_w (l := [108, 97, 116, 101]) (by simp) (by decide) (s _) (lx_blank (lx_num s4 h4.1 (by omega) sb_nil lx_nil)))))))))))))))
theorem sbT (s1 s2 s3 s4 : Int) : SB (bT s1 s2 s3 s4) := sb_of (by decide)
theorem sbG (g : Option Ex) (s1 s2 s3 s4 : Int) : SB (bG g ++ bT s1 s2 s3 s4) := by
  cases g with
  | none => exact sbT s1 s2 s3 s4
  | some t => exact sb_of (by decide)
def bQ (p : AgT) (ps : List AgT) (w g : Option Ex) (s1 s2 s3 s4 : Int) : List UInt8 :=
  [115, 101, 108, 101, 99, 116] ++ 32 :: (bL (agB (toAg p)) ++ (Lib.joinTail [44, 32] (ps.map fun p => bL (agB (toAg p))) ++ 32 :: ([102, 114, 111, 109] ++ 32 :: ([101, 118, 101, 110, 116, 115] ++ (bW w ++ (bG g ++ bT s1 s2 s3 s4))))))
theorem sbW (w g : Option Ex) (s1 s2 s3 s4 : Int) : SB (bW w ++ (bG g ++ bT s1 s2 s3 s4)) := by
  cases w with
  | none => exact sbG g s1 s2 s3 s4
  | some t => exact sb_of (by decide)
theorem lx_Q (p : AgT) (ps : List AgT) (w g : Option Ex) (s1 s2 s3 s4 : Int) (hp : okT p) (hps : ∀ q ∈ ps, okT q) (hw : okO w) (hg : okO g) (h1 : 0 ≤ s1 ∧ s1 ≤ 1000) (h2 : 0 ≤ s2 ∧ s2 ≤ 1000) (h3 : 0 ≤ s3 ∧ s3 ≤ 1000) (h4 : 0 ≤ s4 ∧ s4 ≤ 1000) : LX (bQ p ps w g s1 s2 s3 s4) (wdQ p ps w g s1 s2 s3 s4) := by
  have s : ∀ r, SB (32 :: r) := fun r => sb_of (by decide)
  have L := lx_W w hw (sbG g s1 s2 s3 s4) (lx_G g hg (sbT s1 s2 s3 s4) (lx_T s1 s2 s3 s4 h1 h2 h3 h4))
  exact lx_w (l := [115, 101, 108, 101, 99, 116]) (by simp) (by decide) (s _) (lx_blank (lx_A p hp (lx_As ps hps (lx_blank (lx_w (l := [102, 114, 111, 109]) (by simp) (by decide) (s _) (lx_blank (lx_w (l := [101, 118, 101, 110, 116, 115]) (by simp) (by decide) (sbW w g s1 s2 s3 s4) L)))))))
theorem bL_qy (p : AgT) (ps : List AgT) (w g : Option Ex) (s1 s2 s3 s4 : Int) (hw : okO w) (hg : okO g) : bL (qyB (qyT p ps w g s1 s2 s3 s4)) = bQ p ps w g s1 s2 s3 s4 := by
  have ej : bL ⟨(Lib.join ((toAg p :: ps.map toAg).map fun a => (agB a).data.toList) [44, 32]).toArray⟩ = bL (agB (toAg p)) ++ Lib.joinTail [44, 32] (ps.map fun p => bL (agB (toAg p))) := by
    rw [bL_mk, List.map_cons, Lib.join_cons, List.map_map]
    rfl
  have ew : ∀ s, bL (partB ⟨#[32, 119, 104, 101, 114, 101, 32]⟩ s (optL w)) = bL s ++ bW w := fun s => by
    cases w with
    | none => simp [partB, optL, bW]
    | some t =>
      have hp := flat_pos t
      unfold partB
      rw [if_neg (by show ¬ (flat t).length = 0; omega), bL_app, bL_app]
      show _ ++ (_ ++ bL (txL (flat t))) = _
      rw [txL_flat t hw.wf]
      rfl
  have eg : ∀ s, bL (partB ⟨#[32, 103, 114, 111, 117, 112, 32, 98, 121, 32]⟩ s (optL g)) = bL s ++ bG g := fun s => by
    cases g with
    | none => simp [partB, optL, bG]
    | some t =>
      have hp := flat_pos t
      unfold partB
      rw [if_neg (by show ¬ (flat t).length = 0; omega), bL_app, bL_app]
      show _ ++ (_ ++ bL (txL (flat t))) = _
      rw [txL_flat t hg.wf]
      rfl
  unfold qyB qyT
  simp only [bL_app]
  rw [eg, ew]
  simp only [bL_app]
  rw [ej]
  unfold bQ bT
  simp [bL, List.append_assoc]
/-- what a list of what is gathered is made of -/
theorem ags_of : ∀ (l : List AgQ), (∀ a ∈ l, chkA a = 0) → (∀ a ∈ l, NNl a.of) → ∃ ps : List AgT, l = ps.map toAg ∧ ∀ p ∈ ps, okT p
  | [], _, _ => ⟨[], rfl, fun p hp => by simp at hp⟩
  | a :: l, h, hn => by
    obtain ⟨ps, e, hp⟩ := ags_of l (fun b hb => h b (List.mem_cons_of_mem _ hb)) (fun b hb => hn b (List.mem_cons_of_mem _ hb))
    have hc := h a (List.mem_cons_self ..)
    have hna := hn a (List.mem_cons_self ..)
    have one : ∃ p : AgT, a = toAg p ∧ okT p := by
      obtain ⟨k, l9⟩ := a
      unfold chkA at hc
      simp only at hc hna
      by_cases h0 : k < 1 ∨ 5 < k
      · rw [if_pos h0] at hc; exact absurd hc (by decide)
      · rw [if_neg h0] at hc
        by_cases h1 : k = 1
        · rw [if_pos h1] at hc
          by_cases h2 : 0 < l9.length
          · rw [if_pos h2] at hc; exact absurd hc (by decide)
          · have e9 : l9 = [] := List.eq_nil_of_length_eq_zero (by omega)
            subst e9 h1
            exact ⟨(1, .fld 0), rfl, .inl rfl⟩
        · rw [if_neg h1] at hc
          have hk : (kindQ l9).2 = 0 := by
            by_cases h3 : (kindQ l9).2 = 0
            · exact h3
            · rw [if_pos h3] at hc; exact absurd hc h3
          obtain ⟨t, hw, hf, hl⟩ := chk_flat (kindQ_zero hk)
          subst hf
          refine ⟨(k, t), ?_, .inr ⟨by show 2 ≤ k; omega, by show k ≤ 5; omega, hw, nn_pos t hna, hl⟩⟩
          unfold toAg
          rw [if_neg h1]
    obtain ⟨p, ea, hp1⟩ := one
    refine ⟨p :: ps, by rw [ea, e]; rfl, fun q hq => ?_⟩
    rcases List.mem_cons.1 hq with rfl | hq
    · exact hp1
    · exact hp q hq
theorem opt_of (l : List Nd) (h : 0 < l.length → chkE l = 0) (hn : NNl l) : ∃ o, l = optL o ∧ okO o := by
  by_cases h0 : l.length = 0
  · exact ⟨none, List.eq_nil_of_length_eq_zero h0, trivial⟩
  · obtain ⟨t, hw, hf, hl⟩ := chk_flat (h (by omega))
    subst hf
    exact ⟨some t, rfl, hw, nn_pos t hn, hl⟩
/-- a question that was read is told by a text that is read as it, or it is too long or too deep -/
theorem rt_all {s : ByteArray} {q : Qy} (h : parseQ s = .ok q) : parseQ (qyB q) = .ok q ∨ parseQ (qyB q) = .error 2 := by
  obtain ⟨hn, hc⟩ := parse_nn h
  have ok := okQ_of hc
  obtain ⟨ps, e1, hps⟩ := ags_of q.aggs ok.ag hn.ag
  obtain ⟨w, e2, hw⟩ := opt_of q.wh ok.wh hn.wh
  obtain ⟨g, e3, hg⟩ := opt_of q.bys ok.by_ hn.by_
  cases ps with
  | nil => have := ok.n0; rw [e1] at this; simp at this
  | cons p ps =>
    have hl : ps.length ≤ 10 := by have := ok.n4; rw [e1] at this; simp at this; omega
    have eq : q = qyT p ps w g q.size q.slide q.delay q.late := by
      obtain ⟨a, b, c, d, e, f, k⟩ := q
      simp only at e1 e2 e3
      subst e1 e2 e3
      rfl
    have b1 : 0 ≤ q.size ∧ q.size ≤ 1000 := by have := ok.s1; omega
    have b2 : 0 ≤ q.slide ∧ q.slide ≤ 1000 := by have := ok.s2; omega
    have b3 := ok.s3
    have b4 := ok.s4
    have hp := hps p (List.mem_cons_self ..)
    have hps' : ∀ r ∈ ps, okT r := fun r hr => hps r (List.mem_cons_of_mem _ hr)
    have LQ := lx_Q p ps w g q.size q.slide q.delay q.late hp hps' hw hg b1 b2 b3 b4
    have RQ := rt_quest p ps w g q.size q.slide q.delay q.late hp hps' hl hw hg b1 b2 b3 b4
    have eb := bL_qy p ps w g q.size q.slide q.delay q.late hw hg
    rw [← eq] at eb RQ
    generalize hqs : qyB q = t at *
    have hT : lexT t = (0, wdQ p ps w g q.size q.slide q.delay q.late) ∨ lexT t = (2, []) := by
      unfold lexT
      by_cases h240 : t.size ≤ 240
      · rw [if_pos h240, LQ t 0 t.size [] (by simpa [bL] using eb) (by omega) (by omega) (by simp)]
        by_cases h80 : ([] : Ws).length + (wdQ p ps w g q.size q.slide q.delay q.late).length ≤ 80
        · left; rw [if_pos h80]; rfl
        · right; rw [if_neg h80]
      · right; rw [if_neg h240]
    rcases hT with hT | hT
    · unfold parseQ
      rw [hT]
      simp only [ne_eq, not_true_eq_false, if_false]
      rw [quest_run]
      rcases RQ with e | e
      · left
        rw [e]
        simp only [runK]
        rw [if_neg (by simp [hc])]
      · right
        rw [e]
        rfl
    · right
      unfold parseQ
      rw [hT]
      rfl
end Go.Proofs.YteaanpdckkmjoaaGreatDoor

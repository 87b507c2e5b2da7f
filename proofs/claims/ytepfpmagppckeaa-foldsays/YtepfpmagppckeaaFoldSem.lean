/- What is folded, on trees: it has the same value, is no longer, may be, and has the type that it had, or none but nothing. Conditions: as named. -/
import Derived.Test.YtepfpmagppckeaaFoldTree
import Derived.Test.YtepfpmagppckeaaExpr5
namespace Go.Proofs.Ytepfpmagppckeaa
set_option linter.unusedVariables false
set_option linter.unusedSimpArgs false

def isC : Ex → Bool
  | .cst _ _ => true
  | _ => false
def cval : Ex → V2
  | .cst k v => (k, v)
  | _ => (0, 0)
def ownK (op : Int) : Int := if op = 4 ∨ op = 9 ∨ op = 10 then 2 else 1
def setl (op : Int) (v : V2) : Bool := if op = 9 then (v.1 == 2 && v.2 == 0) else if op = 10 then (v.1 == 2 && v.2 == 1) else !(v.1 == 1)
def setd (op : Int) (v : V2) : V2 := if op = 9 ∨ op = 10 then v else (0, 0)
def idlA (op : Int) (v : V2) : Bool := if op = 9 then (v.1 == 2 && v.2 == 1) else if op = 10 then (v.1 == 2 && v.2 == 0) else if op = 6 then (v.1 == 1 && v.2 == 0) else if op = 8 then (v.1 == 1 && v.2 == 1) else false
def idlB (op : Int) (v : V2) : Bool := (op == 7 && (v.1 == 1 && v.2 == 0)) || idlA op v
def isO (t : Ex) (k : Int) : Bool := decide (tyT t = some k)
def cstV (v : V2) : Ex := .cst v.1 v.2

def fold1 (op : Int) (x : Ex) : Ex :=
  if isC x then cstV (opV op (cval x) (0, 0)) else match x with
  | .one o inner => if o = op ∧ op ≠ 5 ∧ isO inner (ownK op) = true then inner else .one op (.one o inner)
  | x => .one op x
def fold2 (op : Int) (x y : Ex) : Ex :=
  if isC x && isC y then cstV (opV op (cval x) (cval y))
  else if isC x && setl op (cval x) then cstV (setd op (cval x))
  else if isC y && setl op (cval y) then cstV (setd op (cval y))
  else if isC x && (idlA op (cval x) && isO y (ownK op)) then y
  else if isC y && (idlB op (cval y) && isO x (ownK op)) then x
  else .two op x y
def foldT : Ex → Ex
  | .cst k v => .cst k v
  | .fld n => .fld n
  | .one op a => fold1 op (foldT a)
  | .two op a b => fold2 op (foldT a) (foldT b)

theorem ar1_cases {op : Int} (h : ar op = 1) : op = 3 ∨ op = 4 ∨ op = 5 := by
  unfold ar at h
  split at h
  · omega
  · split at h
    · omega
    · split at h <;> omega
theorem ar2_cases {op : Int} (h : ar op = 2) : op = 6 ∨ op = 7 ∨ op = 8 ∨ op = 9 ∨ op = 10 ∨ op = 11 ∨ op = 12 := by
  unfold ar at h
  split at h
  · omega
  · split at h
    · omega
    · split at h <;> omega
theorem numV_kind (n : Int) : (numV n).1 = 1 ∨ (numV n).1 = 0 := by
  unfold numV numK
  simp only
  split
  · exact .inl rfl
  · exact .inr rfl
theorem op_kind {op : Int} (x y : V2) (h : 1 ≤ ar op) : (opV op x y).1 = kindO op ∨ (opV op x y).1 = 0 := by
  have h2 := ar_le op
  rcases (by omega : ar op = 1 ∨ ar op = 2) with h | h
  · rcases ar1_cases h with rfl | rfl | rfl
    · show (negV x.1 x.2).1 = 1 ∨ _
      unfold negV opV
      simp only [if_true]
      unfold negV
      split
      · exact numV_kind _
      · exact .inr rfl
    · show (notV x.1 x.2).1 = 2 ∨ (notV x.1 x.2).1 = 0
      unfold notV
      split
      · exact .inl rfl
      · exact .inr rfl
    · exact .inl rfl
  · rcases ar2_cases h with rfl | rfl | rfl | rfl | rfl | rfl | rfl
    · show (doV 6 x.1 x.2 y.1 y.2).1 = 1 ∨ (doV 6 x.1 x.2 y.1 y.2).1 = 0
      unfold doV
      simp only [show ¬ (6 : Int) = 9 from by decide, show ¬ (6 : Int) = 10 from by decide, if_false, if_true]
      split
      · exact numV_kind _
      · exact .inr rfl
    · show (doV 7 x.1 x.2 y.1 y.2).1 = 1 ∨ (doV 7 x.1 x.2 y.1 y.2).1 = 0
      unfold doV
      simp only [show ¬ (7 : Int) = 9 from by decide, show ¬ (7 : Int) = 10 from by decide, show ¬ (7 : Int) = 6 from by decide, if_false, if_true]
      split
      · exact numV_kind _
      · exact .inr rfl
    · show (doV 8 x.1 x.2 y.1 y.2).1 = 1 ∨ (doV 8 x.1 x.2 y.1 y.2).1 = 0
      unfold doV
      simp only [show ¬ (8 : Int) = 9 from by decide, show ¬ (8 : Int) = 10 from by decide, show ¬ (8 : Int) = 6 from by decide, show ¬ (8 : Int) = 7 from by decide, if_false, if_true]
      split
      · exact numV_kind _
      · exact .inr rfl
    · show andK x.1 x.2 y.1 y.2 = 2 ∨ andK x.1 x.2 y.1 y.2 = 0
      unfold andK
      repeat' split
      all_goals simp
    · show orK x.1 x.2 y.1 y.2 = 2 ∨ orK x.1 x.2 y.1 y.2 = 0
      unfold orK
      repeat' split
      all_goals simp
    · show (doV 11 x.1 x.2 y.1 y.2).1 = 2 ∨ (doV 11 x.1 x.2 y.1 y.2).1 = 0
      unfold doV
      simp only [show ¬ (11 : Int) = 9 from by decide, show ¬ (11 : Int) = 10 from by decide, show ¬ (11 : Int) = 6 from by decide, show ¬ (11 : Int) = 7 from by decide, show ¬ (11 : Int) = 8 from by decide, if_false, if_true]
      split
      · exact .inl rfl
      · exact .inr rfl
    · show (doV 12 x.1 x.2 y.1 y.2).1 = 2 ∨ (doV 12 x.1 x.2 y.1 y.2).1 = 0
      unfold doV
      simp only [show ¬ (12 : Int) = 9 from by decide, show ¬ (12 : Int) = 10 from by decide, show ¬ (12 : Int) = 6 from by decide, show ¬ (12 : Int) = 7 from by decide, show ¬ (12 : Int) = 8 from by decide, show ¬ (12 : Int) = 11 from by decide, if_false, if_true]
      split
      · exact .inl rfl
      · exact .inr rfl

section
variable {ev : List V2} (hev : ∀ p ∈ ev, okV p) (hfk : ∀ n : Int, (nth ev n).1 = 1 ∨ (nth ev n).1 = 0)
include hev in
theorem evT_ok : ∀ t : Ex, Wf t → okV (evT opV ev t)
  | .cst k v, h => h
  | .fld n, h => ok_nth hev n
  | .one op a, h => ok_op _ _ _
  | .two op a b, h => ok_op _ _ _
include hfk in
theorem ty_sound : ∀ (t : Ex) (k : Int), Wf t → tyT t = some k → (evT opV ev t).1 = k ∨ (evT opV ev t).1 = 0
  | .cst c v, k, h, ht => by
    simp only [tyT, Option.some.injEq] at ht
    exact .inl ht
  | .fld n, k, h, ht => by
    simp only [tyT, Option.some.injEq] at ht
    rw [← ht]
    exact hfk n
  | .one op a, k, h, ht => by
    obtain ⟨h1, h2⟩ : ar op = 1 ∧ Wf a := h
    unfold tyT at ht
    split at ht
    · split at ht
      · simp only [Option.some.injEq] at ht
        rw [← ht]
        exact op_kind _ _ (by omega)
      · cases ht
    · cases ht
  | .two op a b, k, h, ht => by
    obtain ⟨h1, h2, h3⟩ : ar op = 2 ∧ Wf a ∧ Wf b := h
    unfold tyT at ht
    split at ht
    · split at ht
      · simp only [Option.some.injEq] at ht
        rw [← ht]
        exact op_kind _ _ (by omega)
      · cases ht
    · cases ht
end

theorem okV_null {x : V2} (h : okV x) (h0 : x.1 = 0) : x = (0, 0) := by
  obtain ⟨k, n⟩ := x
  have := of_decide_eq_true h
  simp only at h0 this
  subst h0
  have : n = 0 := by omega
  rw [this]
theorem okV_num {x : V2} (h : okV x) (h1 : x.1 = 1) : ∃ n, x = (1, n) ∧ -1000000000 ≤ n ∧ n ≤ 1000000000 := by
  obtain ⟨k, n⟩ := x
  have := of_decide_eq_true h
  simp only at h1 this
  subst h1
  exact ⟨n, rfl, by omega, by omega⟩
theorem okV_tru {x : V2} (h : okV x) (h1 : x.1 = 2) : x = (2, 0) ∨ x = (2, 1) := by
  obtain ⟨k, n⟩ := x
  have := of_decide_eq_true h
  simp only at h1 this
  subst h1
  rcases (by omega : n = 0 ∨ n = 1) with rfl | rfl
  · exact .inl rfl
  · exact .inr rfl
theorem numV_in {n : Int} (h : -1000000000 ≤ n ∧ n ≤ 1000000000) : numV n = (1, n) := by
  unfold numV numK numN
  rw [if_pos h, if_pos h]
/-- twice the other way round -/
theorem twice {op : Int} (h : op = 3 ∨ op = 4) {x : V2} (hx : okV x) (hk : x.1 = ownK op ∨ x.1 = 0) : opV op (opV op x (0, 0)) (0, 0) = x := by
  rcases hk with hk | hk
  · rcases h with rfl | rfl
    · obtain ⟨n, rfl, h1, h2⟩ := okV_num hx hk
      show negV (negV 1 n).1 (negV 1 n).2 = _
      have e : negV 1 n = (1, -n) := by unfold negV; rw [if_pos rfl, numV_in (by omega)]
      rw [e]
      show numV (-(-n)) = _
      rw [numV_in (by omega)]
      simp
    · rcases okV_tru hx hk with rfl | rfl <;> rfl
  · rw [okV_null hx hk]
    rcases h with rfl | rfl <;> rfl
/-- what is settled by one -/
theorem settled_l {op : Int} (h : ar op = 2) {x y : V2} (hx : okV x) (hs : setl op x = true) : opV op x y = setd op x := by
  obtain ⟨k, n⟩ := x
  rcases ar2_cases h with rfl | rfl | rfl | rfl | rfl | rfl | rfl
  case inr.inr.inr.inl =>
    simp [setl] at hs
    obtain ⟨rfl, rfl⟩ := hs
    show (andK 2 0 y.1 y.2, andN 2 0 y.1 y.2) = _
    simp [andK, andN, isF, setd]
  case inr.inr.inr.inr.inl =>
    simp [setl] at hs
    obtain ⟨rfl, rfl⟩ := hs
    show (orK 2 1 y.1 y.2, orN 2 1 y.1 y.2) = _
    simp [orK, orN, isT, setd]
  all_goals
    have hk : ¬ (k = 1 ∧ y.1 = 1) := by simp [setl] at hs; exact fun e => hs e.1
    simp [opV, setd, doV, hk]
theorem settled_r {op : Int} (h : ar op = 2) {x y : V2} (hy : okV y) (hs : setl op y = true) : opV op x y = setd op y := by
  obtain ⟨k, n⟩ := y
  rcases ar2_cases h with rfl | rfl | rfl | rfl | rfl | rfl | rfl
  case inr.inr.inr.inl =>
    simp [setl] at hs
    obtain ⟨rfl, rfl⟩ := hs
    show (andK x.1 x.2 2 0, andN x.1 x.2 2 0) = _
    simp [andK, andN, isF, setd]
  case inr.inr.inr.inr.inl =>
    simp [setl] at hs
    obtain ⟨rfl, rfl⟩ := hs
    show (orK x.1 x.2 2 1, orN x.1 x.2 2 1) = _
    simp [orK, orN, isT, setd]
  all_goals
    have hk : ¬ (x.1 = 1 ∧ k = 1) := by simp [setl] at hs; exact fun e => hs e.2
    simp [opV, setd, doV, hk]
theorem idle_l {op : Int} (h : ar op = 2) {x y : V2} (hy : okV y) (hs : idlA op x = true) (hk : y.1 = ownK op ∨ y.1 = 0) : opV op x y = y := by
  obtain ⟨a, b⟩ := x
  rcases ar2_cases h with rfl | rfl | rfl | rfl | rfl | rfl | rfl
  · simp [idlA] at hs
    obtain ⟨rfl, rfl⟩ := hs
    rcases hk with hk | hk
    · obtain ⟨n, rfl, h1, h2⟩ := okV_num hy hk
      show numV (0 + n) = _
      rw [Int.zero_add, numV_in (by omega)]
    · rw [okV_null hy hk]; rfl
  · simp [idlA] at hs
  · simp [idlA] at hs
    obtain ⟨rfl, rfl⟩ := hs
    rcases hk with hk | hk
    · obtain ⟨n, rfl, h1, h2⟩ := okV_num hy hk
      show numV (1 * n) = _
      rw [Int.one_mul, numV_in (by omega)]
    · rw [okV_null hy hk]; rfl
  · simp [idlA] at hs
    obtain ⟨rfl, rfl⟩ := hs
    rcases hk with hk | hk
    · rcases okV_tru hy hk with rfl | rfl <;> rfl
    · rw [okV_null hy hk]; rfl
  · simp [idlA] at hs
    obtain ⟨rfl, rfl⟩ := hs
    rcases hk with hk | hk
    · rcases okV_tru hy hk with rfl | rfl <;> rfl
    · rw [okV_null hy hk]; rfl
  · simp [idlA] at hs
  · simp [idlA] at hs
theorem idle_r {op : Int} (h : ar op = 2) {x y : V2} (hx : okV x) (hs : idlB op y = true) (hk : x.1 = ownK op ∨ x.1 = 0) : opV op x y = x := by
  obtain ⟨a, b⟩ := y
  rcases ar2_cases h with rfl | rfl | rfl | rfl | rfl | rfl | rfl
  · simp [idlB, idlA] at hs
    obtain ⟨rfl, rfl⟩ := hs
    rcases hk with hk | hk
    · obtain ⟨n, rfl, h1, h2⟩ := okV_num hx hk
      show numV (n + 0) = _
      rw [Int.add_zero, numV_in (by omega)]
    · rw [okV_null hx hk]; rfl
  · simp [idlB, idlA] at hs
    obtain ⟨rfl, rfl⟩ := hs
    rcases hk with hk | hk
    · obtain ⟨n, rfl, h1, h2⟩ := okV_num hx hk
      show numV (n - 0) = _
      rw [Int.sub_zero, numV_in (by omega)]
    · rw [okV_null hx hk]; rfl
  · simp [idlB, idlA] at hs
    obtain ⟨rfl, rfl⟩ := hs
    rcases hk with hk | hk
    · obtain ⟨n, rfl, h1, h2⟩ := okV_num hx hk
      show numV (n * 1) = _
      rw [Int.mul_one, numV_in (by omega)]
    · rw [okV_null hx hk]; rfl
  · simp [idlB, idlA] at hs
    obtain ⟨rfl, rfl⟩ := hs
    rcases hk with hk | hk
    · rcases okV_tru hx hk with rfl | rfl <;> rfl
    · rw [okV_null hx hk]; rfl
  · simp [idlB, idlA] at hs
    obtain ⟨rfl, rfl⟩ := hs
    rcases hk with hk | hk
    · rcases okV_tru hx hk with rfl | rfl <;> rfl
    · rw [okV_null hx hk]; rfl
  · simp [idlB, idlA] at hs
  · simp [idlB, idlA] at hs

theorem isC_val {x : Ex} (h : isC x = true) : x = cstV (cval x) := by
  cases x <;> simp [isC] at h
  rfl
theorem cst_wf {x : Ex} (h : isC x = true) (hw : Wf x) : okV (cval x) := by
  cases x <;> simp [isC] at h
  exact hw
theorem cst_ev {x : Ex} (O : Int → V2 → V2 → V2) (ev : List V2) (h : isC x = true) : evT O ev x = cval x := by
  cases x <;> simp [isC] at h
  rfl
theorem setd_ok {op : Int} {v : V2} (h : okV v) : okV (setd op v) := by
  unfold setd
  split
  · exact h
  · exact ok_zero

theorem fold1_wf {op : Int} {x : Ex} (h : ar op = 1) (hw : Wf x) : Wf (fold1 op x) := by
  unfold fold1
  split
  · exact ok_op _ _ _
  · split
    · rename_i o inner _
      split
      · exact hw.2
      · exact ⟨h, hw⟩
    · exact ⟨h, hw⟩
theorem fold2_wf {op : Int} {x y : Ex} (h : ar op = 2) (hx : Wf x) (hy : Wf y) : Wf (fold2 op x y) := by
  unfold fold2
  split
  · exact ok_op _ _ _
  · split
    · rename_i hc
      simp only [Bool.and_eq_true] at hc
      exact setd_ok (cst_wf hc.1 hx)
    · split
      · rename_i hc
        simp only [Bool.and_eq_true] at hc
        exact setd_ok (cst_wf hc.1 hy)
      · split
        · exact hy
        · split
          · exact hx
          · exact ⟨h, hx, hy⟩
theorem foldT_wf : ∀ t : Ex, Wf t → Wf (foldT t)
  | .cst k v, h => h
  | .fld n, h => h
  | .one op a, h => fold1_wf h.1 (foldT_wf a h.2)
  | .two op a b, h => fold2_wf h.1 (foldT_wf a h.2.1) (foldT_wf b h.2.2)

theorem fold1_len (op : Int) (x : Ex) : (flat (fold1 op x)).length ≤ (flat x).length + 1 := by
  unfold fold1
  split
  · simp [flat, cstV]
  · split
    · split
      · simp [flat, join1]; omega
      · simp [flat, join1]
    · simp [flat, join1]
theorem fold2_len (op : Int) (x y : Ex) : (flat (fold2 op x y)).length ≤ (flat x).length + (flat y).length + 1 := by
  unfold fold2
  split
  · simp [flat, cstV]
  · split
    · simp [flat, cstV]
    · split
      · simp [flat, cstV]
      · split
        · omega
        · split
          · omega
          · simp [flat, joinL]; omega
theorem foldT_len : ∀ t : Ex, (flat (foldT t)).length ≤ (flat t).length
  | .cst k v => Nat.le_refl _
  | .fld n => Nat.le_refl _
  | .one op a => by
    have h1 := fold1_len op (foldT a)
    have h2 := foldT_len a
    have h3 : (flat (.one op a)).length = (flat a).length + 1 := by simp [flat, join1]
    rw [h3]
    show (flat (fold1 op (foldT a))).length ≤ _
    omega
  | .two op a b => by
    have h1 := fold2_len op (foldT a) (foldT b)
    have h2 := foldT_len a
    have h4 := foldT_len b
    have h3 : (flat (.two op a b)).length = (flat a).length + (flat b).length + 1 := by simp [flat, joinL]; omega
    rw [h3]
    show (flat (fold2 op (foldT a) (foldT b))).length ≤ _
    omega

section
variable {ev : List V2} (hev : ∀ p ∈ ev, okV p) (hfk : ∀ n : Int, (nth ev n).1 = 1 ∨ (nth ev n).1 = 0)
include hev hfk
theorem fold1_ev {op : Int} {x : Ex} (h : ar op = 1) (hw : Wf x) : evT opV ev (fold1 op x) = opV op (evT opV ev x) (0, 0) := by
  unfold fold1
  split
  · rename_i hc
    rw [cst_ev opV ev hc]
    rfl
  · split
    · rename_i o inner _
      split
      · rename_i hc
        obtain ⟨rfl, h5, ht⟩ := hc
        have h34 : o = 3 ∨ o = 4 := by rcases ar1_cases h with h | h | h <;> omega
        show _ = opV o (opV o (evT opV ev inner) (0, 0)) (0, 0)
        exact (twice h34 (evT_ok hev inner hw.2) (ty_sound hfk inner _ hw.2 (of_decide_eq_true ht))).symm
      · rfl
    · rfl
theorem fold2_ev {op : Int} {x y : Ex} (h : ar op = 2) (hx : Wf x) (hy : Wf y) : evT opV ev (fold2 op x y) = opV op (evT opV ev x) (evT opV ev y) := by
  unfold fold2
  split
  · rename_i hc
    simp only [Bool.and_eq_true] at hc
    rw [cst_ev opV ev hc.1, cst_ev opV ev hc.2]
    rfl
  · split
    · rename_i hc
      simp only [Bool.and_eq_true] at hc
      rw [cst_ev opV ev hc.1]
      exact (settled_l h (cst_wf hc.1 hx) hc.2).symm
    · split
      · rename_i hc
        simp only [Bool.and_eq_true] at hc
        rw [cst_ev opV ev hc.1]
        exact (settled_r h (cst_wf hc.1 hy) hc.2).symm
      · split
        · rename_i hc
          simp only [Bool.and_eq_true] at hc
          rw [cst_ev opV ev hc.1]
          exact (idle_l h (evT_ok hev y hy) hc.2.1 (ty_sound hfk y _ hy (of_decide_eq_true hc.2.2))).symm
        · split
          · rename_i hc
            simp only [Bool.and_eq_true] at hc
            rw [cst_ev opV ev hc.1]
            exact (idle_r h (evT_ok hev x hx) hc.2.1 (ty_sound hfk x _ hx (of_decide_eq_true hc.2.2))).symm
          · rfl
theorem foldT_ev : ∀ t : Ex, Wf t → evT opV ev (foldT t) = evT opV ev t
  | .cst k v, h => rfl
  | .fld n, h => rfl
  | .one op a, h => by
    show evT opV ev (fold1 op (foldT a)) = _
    rw [fold1_ev hev hfk h.1 (foldT_wf a h.2), foldT_ev a h.2]
    rfl
  | .two op a b, h => by
    show evT opV ev (fold2 op (foldT a) (foldT b)) = _
    rw [fold2_ev hev hfk h.1 (foldT_wf a h.2.1) (foldT_wf b h.2.2), foldT_ev a h.2.1, foldT_ev b h.2.2]
    rfl
end

theorem goes_zero (op : Int) : goes op 0 = true := by
  unfold goes
  repeat' split
  all_goals rfl
theorem setd_kind {op : Int} {v : V2} (h : ar op = 2) (hv : okV v) (hs : setl op v = true) : (setd op v).1 = kindO op ∨ (setd op v).1 = 0 := by
  obtain ⟨k, n⟩ := v
  rcases ar2_cases h with rfl | rfl | rfl | rfl | rfl | rfl | rfl
  case inr.inr.inr.inl => simp [setl] at hs; exact .inl hs.1
  case inr.inr.inr.inr.inl => simp [setl] at hs; exact .inl hs.1
  all_goals exact .inr rfl
theorem own_kind {op : Int} (h : op = 3 ∨ op = 4 ∨ op = 6 ∨ op = 7 ∨ op = 8 ∨ op = 9 ∨ op = 10) : ownK op = kindO op := by
  rcases h with rfl | rfl | rfl | rfl | rfl | rfl | rfl <;> rfl
theorem idlA_op {op : Int} {v : V2} (h : idlA op v = true) : op = 6 ∨ op = 8 ∨ op = 9 ∨ op = 10 := by
  unfold idlA at h
  by_cases h1 : op = 9
  · omega
  · rw [if_neg h1] at h
    by_cases h2 : op = 10
    · omega
    · rw [if_neg h2] at h
      by_cases h3 : op = 6
      · omega
      · rw [if_neg h3] at h
        by_cases h4 : op = 8
        · omega
        · simp [h4] at h
theorem idlB_op {op : Int} {v : V2} (h : idlB op v = true) : op = 6 ∨ op = 7 ∨ op = 8 ∨ op = 9 ∨ op = 10 := by
  unfold idlB at h
  rw [Bool.or_eq_true] at h
  rcases h with h | h
  · simp at h
    omega
  · have := idlA_op h
    omega

/-- what is folded has a type where it had one: the same, or nothing -/
theorem fold1_ty {op : Int} {x : Ex} {k : Int} (h : ar op = 1) (hw : Wf x) (ht : tyT (.one op x) = some k) : tyT (fold1 op x) = some k ∨ tyT (fold1 op x) = some 0 := by
  have hk : k = kindO op := by
    unfold tyT at ht
    split at ht
    · split at ht
      · simpa using ht.symm
      · cases ht
    · cases ht
  subst hk
  unfold fold1
  split
  · rcases op_kind (cval x) (0, 0) (by omega : 1 ≤ ar op) with e | e
    · exact .inl (by show some _ = _; rw [e])
    · exact .inr (by show some _ = _; rw [e])
  · split
    · rename_i o inner _
      split
      · rename_i hc
        obtain ⟨rfl, h5, hi⟩ := hc
        have h34 : o = 3 ∨ o = 4 := by rcases ar1_cases h with h | h | h <;> omega
        rw [of_decide_eq_true hi]
        exact .inl (by rw [own_kind (by omega)])
      · exact .inl ht
    · exact .inl ht
theorem fold2_ty {op : Int} {x y : Ex} {k : Int} (h : ar op = 2) (hx : Wf x) (hy : Wf y) (ht : tyT (.two op x y) = some k) : tyT (fold2 op x y) = some k ∨ tyT (fold2 op x y) = some 0 := by
  have hk : k = kindO op := by
    unfold tyT at ht
    split at ht
    · split at ht
      · simpa using ht.symm
      · cases ht
    · cases ht
  subst hk
  have cs : ∀ v : V2, (v.1 = kindO op ∨ v.1 = 0) → tyT (cstV v) = some (kindO op) ∨ tyT (cstV v) = some 0 := fun v hv => by
    rcases hv with e | e
    · exact .inl (by show some _ = _; rw [e])
    · exact .inr (by show some _ = _; rw [e])
  unfold fold2
  split
  · exact cs _ (op_kind _ _ (by omega))
  · split
    · rename_i hc
      simp only [Bool.and_eq_true] at hc
      exact cs _ (setd_kind h (cst_wf hc.1 hx) hc.2)
    · split
      · rename_i hc
        simp only [Bool.and_eq_true] at hc
        exact cs _ (setd_kind h (cst_wf hc.1 hy) hc.2)
      · split
        · rename_i hc
          simp only [Bool.and_eq_true] at hc
          have := idlA_op hc.2.1
          rw [of_decide_eq_true hc.2.2, own_kind (by omega)]
          exact .inl rfl
        · split
          · rename_i hc
            simp only [Bool.and_eq_true] at hc
            have := idlB_op hc.2.1
            rw [of_decide_eq_true hc.2.2, own_kind (by omega)]
            exact .inl rfl
          · exact .inl ht
theorem foldT_ty : ∀ (t : Ex) (k : Int), Wf t → tyT t = some k → tyT (foldT t) = some k ∨ tyT (foldT t) = some 0
  | .cst c v, k, h, ht => .inl ht
  | .fld n, k, h, ht => .inl ht
  | .one op a, k, h, ht => by
    obtain ⟨h1, h2⟩ : ar op = 1 ∧ Wf a := h
    refine fold1_ty h1 (foldT_wf a h2) ?_
    unfold tyT at ht ⊢
    split at ht
    · rename_i m hm
      split at ht
      · rename_i hg
        rcases foldT_ty a m h2 hm with e | e
        · rw [e]; simp only; rw [if_pos hg]; exact ht
        · rw [e]; simp only; rw [if_pos (goes_zero op)]; exact ht
      · cases ht
    · cases ht
  | .two op a b, k, h, ht => by
    obtain ⟨h1, h2, h3⟩ : ar op = 2 ∧ Wf a ∧ Wf b := h
    refine fold2_ty h1 (foldT_wf a h2) (foldT_wf b h3) ?_
    unfold tyT at ht ⊢
    split at ht
    · rename_i m n hm hn
      split at ht
      · rename_i hg
        rw [Bool.and_eq_true] at hg
        rcases foldT_ty a m h2 hm with e | e <;> rcases foldT_ty b n h3 hn with e2 | e2 <;> rw [e, e2] <;> simp only
        · rw [if_pos (by rw [hg.1, hg.2]; rfl)]; exact ht
        · rw [if_pos (by rw [hg.1, goes_zero]; rfl)]; exact ht
        · rw [if_pos (by rw [hg.2, goes_zero]; rfl)]; exact ht
        · rw [if_pos (by rw [goes_zero]; rfl)]; exact ht
      · cases ht
    · cases ht
end Go.Proofs.Ytepfpmagppckeaa

/- Words of a text, with blanks between, are the same words: plain lists. Conditions: none. -/
import Derived.Test.YticgfdcgobdlmaaLex3
namespace Go.Proofs.Yticgfdcgobdlmaa

theorem wq_let (s : ByteArray) (k : Nat) (h : isLet (bt s k) = true) : wl s k = run isLet s k := by unfold wl; rw [if_pos h]
theorem wq_dig (s : ByteArray) (k : Nat) (h0 : isLet (bt s k) = false) (h : isDig (bt s k) = true) : wl s k = run isDig s k := by unfold wl; rw [h0, if_neg (by simp), if_pos h]
theorem wq_else (s : ByteArray) (k : Nat) (h0 : isLet (bt s k) = false) (h : isDig (bt s k) = false) : wl s k = if k + 1 < s.size ∧ isTwo (bt s k) (bt s (k + 1)) = true then 2 else if isSgn (bt s k) then 1 else 0 := by
  unfold wl; rw [h0, h, if_neg (by simp), if_neg (by simp)]


/-- what a word looks like -/
def wordy (l : List UInt8) : Prop :=
  l ≠ [] ∧ ((∀ c ∈ l, isLet (c.toNat : Int) = true) ∨ (∀ c ∈ l, isDig (c.toNat : Int) = true) ∨ (∃ a b, l = [a, b] ∧ isTwo (a.toNat : Int) (b.toNat : Int) = true) ∨ (∃ a, l = [a] ∧ isSgn (a.toNat : Int) = true))

theorem sgn_not {c : Int} (h : isSgn c = true) : isLet c = false ∧ isDig c = false ∧ c ≠ 32 := by
  simp only [isSgn, Bool.or_eq_true, beq_iff_eq] at h
  refine ⟨decide_eq_false ?_, decide_eq_false ?_, ?_⟩ <;> omega
theorem two_not {a b : Int} (h : isTwo a b = true) : isLet a = false ∧ isDig a = false ∧ a ≠ 32 ∧ b ≠ 32 := by
  simp only [isTwo, Bool.or_eq_true, Bool.and_eq_true, beq_iff_eq] at h
  refine ⟨decide_eq_false ?_, decide_eq_false ?_, ?_, ?_⟩ <;> omega
theorem dig_not {c : Int} (h : isDig c = true) : isLet c = false ∧ c ≠ 32 := by
  have := of_decide_eq_true h
  exact ⟨decide_eq_false (by omega), by omega⟩
theorem let_not {c : Int} (h : isLet c = true) : c ≠ 32 := by
  have := of_decide_eq_true h
  omega

theorem bt_at (t : ByteArray) (a : Nat) (l r : List UInt8) (h : t.data.toList.drop a = l ++ r) (j : Nat) (hj : j < l.length) : bt t (a + j) = (l[j].toNat : Int) := by
  unfold bt
  have e : t.data.toList.getD (a + j) 0 = (t.data.toList.drop a).getD j 0 := by simp [List.getD]
  rw [e, h]
  simp [List.getD, List.getElem?_append_left hj, hj]
theorem bt_behind (t : ByteArray) (a : Nat) (l r : List UInt8) (c : UInt8) (h : t.data.toList.drop a = l ++ c :: r) : bt t (a + l.length) = (c.toNat : Int) := by
  unfold bt
  have e : t.data.toList.getD (a + l.length) 0 = (t.data.toList.drop a).getD l.length 0 := by simp [List.getD]
  rw [e, h]
  simp [List.getD]
theorem size_behind (t : ByteArray) (a : Nat) (l r : List UInt8) (c : UInt8) (h : t.data.toList.drop a = l ++ c :: r) : a + l.length < t.size := by
  have := congrArg List.length h
  simp at this
  have := Lib.size_eq t
  simp at this
  omega

/-- a word with a blank behind it is read as it -/
theorem wl_wordy (t : ByteArray) (a : Nat) (l r : List UInt8) (h : t.data.toList.drop a = l ++ 32 :: r) (hw : wordy l) : wl t a = l.length ∧ bt t a ≠ 32 := by
  obtain ⟨hne, hw⟩ := hw
  have hp : 0 < l.length := List.length_pos_iff.2 hne
  have h0 := bt_at t a l (32 :: r) h 0 hp
  rw [Nat.add_zero] at h0
  have hb := bt_behind t a l r 32 h
  have hs := size_behind t a l r 32 h
  rcases hw with hw | hw | ⟨x, y, rfl, hw⟩ | ⟨x, rfl, hw⟩
  · have q : isLet (bt t a) = true := by rw [h0]; exact hw _ (List.getElem_mem _)
    refine ⟨?_, let_not q⟩
    rw [wq_let t a q, run_of isLet t a (a + l.length) (by omega) (by omega) ?_ (.inr (by rw [hb]; rfl))]
    · omega
    · intro j h1 h2
      have := bt_at t a l (32 :: r) h (j - a) (by omega)
      rw [show a + (j - a) = j by omega] at this
      rw [this]; exact hw _ (List.getElem_mem _)
  · have q : isDig (bt t a) = true := by rw [h0]; exact hw _ (List.getElem_mem _)
    refine ⟨?_, (dig_not q).2⟩
    rw [wq_dig t a (dig_not q).1 q, run_of isDig t a (a + l.length) (by omega) (by omega) ?_ (.inr (by rw [hb]; rfl))]
    · omega
    · intro j h1 h2
      have := bt_at t a l (32 :: r) h (j - a) (by omega)
      rw [show a + (j - a) = j by omega] at this
      rw [this]; exact hw _ (List.getElem_mem _)
  · have h1 := bt_at t a [x, y] (32 :: r) h 1 (by simp)
    simp at h0 h1 hs
    have q := two_not hw
    rw [← h0, ← h1] at hw
    rw [← h0] at q
    refine ⟨?_, q.2.2.1⟩
    rw [wq_else t a q.1 q.2.1, if_pos ⟨by omega, hw⟩]
    rfl
  · simp at h0 hb hs
    have q := sgn_not hw
    rw [← h0] at q hw
    refine ⟨?_, q.2.2⟩
    rw [wq_else t a q.1 q.2.1, if_neg, if_pos hw]
    · rfl
    · rintro ⟨_, q2⟩
      exact (two_not q2).2.2.2 hb

theorem runN_all (p : Int → Bool) (s : ByteArray) : ∀ f a j, j < runN p s f a → p (bt s (a + j)) = true
  | 0, a, j, h => absurd h (by unfold runN; omega)
  | f + 1, a, j, h => by
    unfold runN at h
    split at h
    · rename_i q
      cases j with
      | zero => exact q.2
      | succ j =>
        have := runN_all p s f (a + 1) j (by omega)
        rwa [show a + 1 + j = a + (j + 1) by omega] at this
    · omega

theorem ext_get (s : ByteArray) (a n j : Nat) (h : a + n ≤ s.size) (hj : j < ((s.data.toList.drop a).take n).length) : ((((s.data.toList.drop a).take n)[j]).toNat : Int) = bt s (a + j) := by
  unfold bt
  rw [Lib.size_eq] at h
  generalize s.data.toList = l at *
  have hl : a + j < l.length := by
    rw [List.length_take, List.length_drop] at hj
    omega
  simp [List.getD, hl]

theorem drop_past (l r : List UInt8) (c : UInt8) : List.drop (l.length + 1) (l ++ c :: r) = r := by
  induction l with
  | nil => rfl
  | cons x l ih => simp

/-- what is read as a word looks like one -/
theorem wordy_of (s : ByteArray) (a : Nat) (h : a < s.size) (hw : wl s a ≠ 0) : wordy (s.extract a (a + wl s a)).data.toList := by
  have hle := wl_le s a h
  rw [Lib.extract_data, show a + wl s a - a = wl s a by omega]
  have hlen : ((s.data.toList.drop a).take (wl s a)).length = wl s a := by
    have := Lib.size_eq s
    simp at this ⊢
    omega
  refine ⟨fun e => hw (by rw [← hlen, e]; rfl), ?_⟩
  have all : ∀ p : Int → Bool, (∀ j, j < wl s a → p (bt s (a + j)) = true) → ∀ c ∈ (s.data.toList.drop a).take (wl s a), p (c.toNat : Int) = true := by
    intro p hp c hc
    obtain ⟨j, hj, rfl⟩ := List.mem_iff_getElem.1 hc
    rw [ext_get s a (wl s a) j hle hj]
    exact hp j (by omega)
  cases hL : isLet (bt s a)
  · cases hD : isDig (bt s a)
    · have e := wq_else s a hL hD
      by_cases h2 : a + 1 < s.size ∧ isTwo (bt s a) (bt s (a + 1)) = true
      · rw [if_pos h2] at e
        rw [e] at hlen hle ⊢
        match hl : (s.data.toList.drop a).take 2, hlen with
        | [x, y], _ =>
          have g0 := ext_get s a 2 0 hle (by rw [hl]; simp)
          have g1 := ext_get s a 2 1 hle (by rw [hl]; simp)
          simp only [hl] at g0 g1
          simp at g0 g1
          exact .inr (.inr (.inl ⟨x, y, rfl, by rw [g0, g1]; exact h2.2⟩))
      · rw [if_neg h2] at e
        cases hS : isSgn (bt s a)
        · rw [hS] at e; exact absurd e hw
        · rw [hS, if_pos rfl] at e
          rw [e] at hlen hle ⊢
          match hl : (s.data.toList.drop a).take 1, hlen with
          | [x], _ =>
            have g0 := ext_get s a 1 0 hle (by rw [hl]; simp)
            simp only [hl] at g0
            simp at g0
            exact .inr (.inr (.inr ⟨x, rfl, by rw [g0]; exact hS⟩))
    · refine .inr (.inl (all isDig fun j hj => ?_))
      rw [wq_dig s a hL hD] at hj
      exact runN_all isDig s _ a j hj
  · refine .inl (all isLet fun j hj => ?_)
    rw [wq_let s a hL] at hj
    exact runN_all isLet s _ a j hj

/-- the words of a text look like words, and are not too many -/
theorem lexF_wordy (s : ByteArray) : ∀ f a ws, (∀ x ∈ ws, wordy x.data.toList) → ws.length ≤ 80 → ∀ x ∈ (lexF s f a ws).2, wordy x.data.toList
  | 0, _, ws, h, _ => h
  | f + 1, a, ws, h, hn => by
    unfold lexF
    by_cases h1 : a < s.size
    · rw [if_pos h1]
      by_cases h2 : bt s a = 32
      · rw [if_pos h2]; exact lexF_wordy s f _ _ h hn
      · rw [if_neg h2]
        by_cases h3 : wl s a = 0
        · rw [if_pos h3]; intro x hx; simp at hx
        · rw [if_neg h3]
          by_cases h4 : ws.length = 80
          · rw [if_pos h4]; intro x hx; simp at hx
          · rw [if_neg h4]
            refine lexF_wordy s f _ _ ?_ (by simp; omega)
            intro x hx
            rcases List.mem_append.1 hx with hx | hx
            · exact h x hx
            · simp at hx; subst hx; exact wordy_of s a h1 h3
    · rw [if_neg h1]; exact h
theorem lexF_few (s : ByteArray) : ∀ f a ws, ws.length ≤ 80 → (lexF s f a ws).2.length ≤ 80
  | 0, _, ws, hn => hn
  | f + 1, a, ws, hn => by
    unfold lexF
    repeat' split
    all_goals first | exact lexF_few s f _ _ hn | (refine lexF_few s f _ _ ?_; simp; omega) | exact hn | simp
theorem lexT_wordy (s : ByteArray) : ∀ x ∈ (lexT s).2, wordy x.data.toList := by
  unfold lexT
  split
  · exact lexF_wordy s _ _ _ (fun x hx => by simp at hx) (by simp)
  · intro x hx; simp at hx
theorem lexT_few (s : ByteArray) : (lexT s).2.length ≤ 80 := by
  unfold lexT
  split
  · exact lexF_few s _ _ _ (by simp)
  · simp

theorem lexF_small (s : ByteArray) : ∀ f a ws, (∀ x ∈ ws, x.size ≤ s.size) → ∀ x ∈ (lexF s f a ws).2, x.size ≤ s.size
  | 0, _, ws, h => h
  | f + 1, a, ws, h => by
    unfold lexF
    by_cases h1 : a < s.size
    · rw [if_pos h1]
      by_cases h2 : bt s a = 32
      · rw [if_pos h2]; exact lexF_small s f _ _ h
      · rw [if_neg h2]
        by_cases h3 : wl s a = 0
        · rw [if_pos h3]; intro x hx; simp at hx
        · rw [if_neg h3]
          by_cases h4 : ws.length = 80
          · rw [if_pos h4]; intro x hx; simp at hx
          · rw [if_neg h4]
            refine lexF_small s f _ _ ?_
            intro x hx
            rcases List.mem_append.1 hx with hx | hx
            · exact h x hx
            · simp at hx; subst hx
              have := wl_le s a h1
              rw [Lib.size_eq, Lib.extract_data, List.length_take, List.length_drop, ← Lib.size_eq]
              omega
    · rw [if_neg h1]; exact h
theorem lexF_err (s : ByteArray) : ∀ f a ws, (lexF s f a ws).1 ≠ 0 → (lexF s f a ws).2 = []
  | 0, _, ws, h => absurd rfl h
  | f + 1, a, ws, h => by
    unfold lexF at h ⊢
    by_cases h1 : a < s.size
    · rw [if_pos h1] at h ⊢
      by_cases h2 : bt s a = 32
      · rw [if_pos h2] at h ⊢; exact lexF_err s f _ _ h
      · rw [if_neg h2] at h ⊢
        by_cases h3 : wl s a = 0
        · rw [if_pos h3]
        · rw [if_neg h3] at h ⊢
          by_cases h4 : ws.length = 80
          · rw [if_pos h4]
          · rw [if_neg h4] at h ⊢; exact lexF_err s f _ _ h
    · rw [if_neg h1] at h; exact absurd rfl h
theorem lexT_err (s : ByteArray) (h : (lexT s).1 ≠ 0) : (lexT s).2 = [] := by
  unfold lexT at h ⊢
  by_cases h1 : s.size ≤ 240
  · rw [if_pos h1] at h ⊢; exact lexF_err s _ _ _ h
  · rw [if_neg h1]
theorem lexT_small (s : ByteArray) : ∀ x ∈ (lexT s).2, x.size ≤ s.size := by
  unfold lexT
  split
  · exact lexF_small s _ _ _ (fun x hx => by simp at hx)
  · intro x hx; simp at hx

/-- words, a blank behind each -/
def joined (us : List ByteArray) : List UInt8 := (us.map fun u => u.data.toList ++ [32]).flatten

theorem joined_take (us : List ByteArray) (k : Nat) (h : k < us.length) : joined (us.take (k + 1)) = joined (us.take k) ++ ((us.getD k ⟨#[]⟩).data.toList ++ [32]) := by
  have e : us.getD k ⟨#[]⟩ = us[k] := by simp [List.getD, h]
  rw [e, List.take_succ_eq_append_getElem h]
  unfold joined
  rw [List.map_append, List.flatten_append, List.map_singleton, List.flatten_singleton]

theorem lexF_joined (t : ByteArray) : ∀ (us : List ByteArray) (f a : Nat) (ws : List ByteArray), t.size - a ≤ f → t.data.toList.drop a = joined us → (∀ x ∈ us, wordy x.data.toList) → ws.length + us.length ≤ 80 → lexF t f a ws = (0, ws ++ us)
  | [], f, a, ws, hf, hd, _, _ => by
    have : t.size ≤ a := by
      have h1 : t.data.toList.drop a = [] := hd
      have h2 := List.drop_eq_nil_iff.1 h1
      have := Lib.size_eq t
      omega
    cases f with
    | zero => simp [lexF]
    | succ f => unfold lexF; rw [if_neg (by omega)]; simp
  | u :: us, f, a, ws, hf, hd, hw, hn => by
    have hd' : t.data.toList.drop a = u.data.toList ++ 32 :: joined us := by
      rw [hd]; simp [joined]
    have hu := hw u (List.mem_cons_self ..)
    obtain ⟨e1, e2⟩ := wl_wordy t a _ _ hd' hu
    have hs := size_behind t a _ _ 32 hd'
    have hp : 0 < u.data.toList.length := List.length_pos_iff.2 hu.1
    have hb := bt_behind t a _ _ 32 hd'
    have hx : t.extract a (a + wl t a) = u := by
      rw [Lib.extract_eq, e1, show a + u.data.toList.length - a = u.data.toList.length by omega, hd']
      simp
    obtain ⟨f, rfl⟩ : ∃ g, f = g + 2 := ⟨f - 2, by omega⟩
    simp at hn
    rw [lexF, if_pos (by omega), if_neg e2, if_neg (by omega), if_neg (by omega), hx, e1, lexF, if_pos hs, if_pos (by rw [hb]; rfl)]
    have hr : t.data.toList.drop (a + u.data.toList.length + 1) = joined us := by
      rw [Nat.add_assoc, ← List.drop_drop, hd']
      exact drop_past _ _ _
    rw [lexF_joined t us f _ _ (by omega) hr (fun x hx => hw x (List.mem_cons_of_mem _ hx)) (by simp; omega)]
    simp

theorem lexF_blanks (t : ByteArray) (us : List ByteArray) (hw : ∀ x ∈ us, wordy x.data.toList) (hn : us.length ≤ 80) : ∀ (j f a : Nat), t.size - a ≤ f → t.data.toList.drop a = List.replicate j 32 ++ joined us → lexF t f a [] = (0, us)
  | 0, f, a, hf, hd => by
    rw [lexF_joined t us f a [] hf (by simpa using hd) hw (by simpa using hn)]
    simp
  | j + 1, f, a, hf, hd => by
    have hd' : t.data.toList.drop a = [] ++ 32 :: (List.replicate j 32 ++ joined us) := by rw [hd]; simp [List.replicate_succ]
    have hb := bt_behind t a [] _ 32 hd'
    have hs := size_behind t a [] _ 32 hd'
    simp at hb hs
    obtain ⟨f, rfl⟩ : ∃ g, f = g + 1 := ⟨f - 1, by omega⟩
    rw [lexF, if_pos hs, if_pos hb]
    refine lexF_blanks t us hw hn j f (a + 1) (by omega) ?_
    rw [← List.drop_drop, hd']
    simp

theorem lexT_again (s t : ByteArray) (j : Nat) (ht : t.size ≤ 240) (hd : t.data.toList = List.replicate j 32 ++ joined (lexT s).2) : lexT t = (0, (lexT s).2) := by
  have e : lexT t = lexF t t.size 0 [] := by unfold lexT; rw [if_pos ht]
  rw [e]
  exact lexF_blanks t _ (lexT_wordy s) (lexT_few s) j _ 0 (by omega) (by simpa using hd)
end Go.Proofs.Yticgfdcgobdlmaa

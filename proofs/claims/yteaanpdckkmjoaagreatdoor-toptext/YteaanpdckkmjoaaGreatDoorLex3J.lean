/- Several texts in one, each with its own head. What is proved: what the parts say. Conditions: theirs. -/
import Derived.Test.YteaanpdckkmjoaaGreatDoorLex1J
import Derived.Deep.DeepMust
import Derived.Test.YteaanpdckkmjoaaGreatDoorExprPureJ
import Derived.Lib.ItoaNum
import Derived.Lib.Join
/- The contract of lexer.Words, over this seat's translation: the words of a text, or an error. Conditions: none but that a text has fewer than 2^63 bytes. -/
namespace Go.Proofs.YteaanpdckkmjoaaGreatDoor
open Go.RowKit
set_option linter.unusedVariables false
set_option linter.unusedSimpArgs false

theorem ext_size (s : ByteArray) (a : Nat) (h : a ≤ s.size) : (s.extract a s.size).size = s.size - a := by
  rw [Lib.size_eq, Lib.extract_to_end, List.length_drop, ← Lib.size_eq]
theorem bt_ext (s : ByteArray) (a j : Nat) : bt (s.extract a s.size) j = bt s (a + j) := by
  unfold bt
  rw [Lib.extract_to_end]
  simp [List.getD]
theorem runN_ext (p : Int → Bool) (s : ByteArray) (a : Nat) (h : a ≤ s.size) : ∀ f j, runN p (s.extract a s.size) f j = runN p s f (a + j)
  | 0, _ => rfl
  | f + 1, j => by
    unfold runN
    rw [runN_ext p s a h f (j + 1), ext_size s a h, bt_ext, Nat.add_assoc]
    by_cases h1 : j < s.size - a ∧ p (bt s (a + j)) = true
    · rw [if_pos h1, if_pos ⟨by omega, h1.2⟩]
    · rw [if_neg h1, if_neg (fun q => h1 ⟨by omega, q.2⟩)]
theorem wl_ext (s : ByteArray) (a : Nat) (h : a ≤ s.size) : wl (s.extract a s.size) 0 = wl s a := by
  unfold wl run
  rw [runN_ext _ _ _ h, runN_ext _ _ _ h, ext_size s a h, bt_ext, bt_ext]
  simp only [Nat.sub_zero, Nat.add_zero, Nat.zero_add]
  have e : (1 < s.size - a) = (a + 1 < s.size) := propext ⟨fun _ => by omega, fun _ => by omega⟩
  simp only [e]

theorem wordLenAt (s : ByteArray) (k : Nat) (w : World) (h : k < s.size) (hs : s.size ≤ maxLen) : Calls Tryz.prog 49 #[.string (s.extract k s.size)] w fun e w' => e = .returned (.int .i64 (wl s k)) ∧ w' = w := by
  rw [← wl_ext s k (by omega)]
  exact wordLen _ w (by rw [ext_size s k (by omega)]; omega) (by rw [ext_size s k (by omega)]; omega)

theorem infoS : (Tryz.prog.info? 9).map (fun i => (i.zero, i.size, i.bytes)) = some (some (.string ⟨#[]⟩), 1, 16) := by kernel_rfl

theorem owns_shape {w : World} {base : Nat} {e : TypeId} {size : Nat} {v : Value} {n : Nat} {xs : List Value} (h : w.ownsRow base e size v n xs) : ∃ ao cap, v = .slice ao n cap := by
  rcases h.2 with ⟨rfl, rfl⟩ | ⟨g, cap, cur, rfl, _⟩
  · exact ⟨none, 0, rfl⟩
  · exact ⟨_, cap, rfl⟩

theorem owns_below {w w' : World} {base : Nat} {e : TypeId} {size : Nat} {v : Value} {n : Nat} {xs : List Value} (h : w.ownsRow base e size v n xs) : ∀ k, v.ownBlock = some k → base ≤ k := fun k hk => (h.lt k hk).1

/-- one word more -/
theorem own_word {w0 wr w1 : World} {v v' : Value} {ws : List ByteArray} {x : ByteArray} {o : Obj} (hb : Below w0.heap.size w0 wr) (ho : wr.ownsRow w0.heap.size 9 1 v ws.length (ws.map Value.string))
    (ho' : w1.ownsRow w0.heap.size 9 1 v' (ws.length + 1) (ws.map Value.string ++ [.string x])) (hg : (wr.alloc o).grownBy w1 v.ownBlock) :
    w1.ownsRow w0.heap.size 9 1 v' (ws ++ [x]).length ((ws ++ [x]).map Value.string) ∧ Below w0.heap.size w0 w1 := by
  refine ⟨by simpa using ho', ?_⟩
  exact (hb.alloc hb.size o).grown hg (by have := hb.size; simp; omega) (fun k hk => (ho.lt k hk).1)

set_option maxRecDepth 100000 in
theorem words_long (s : ByteArray) (w : World) (h : 240 < s.size) : Calls Tryz.prog 29 #[.string s] w fun e w' => ∃ v, e = .returned (.tuple #[v, errV (lexT s).1]) ∧ w'.ownsRow w.heap.size 9 1 v (lexT s).2.length ((lexT s).2.map Value.string) ∧ Below w.heap.size w w' := by
  have e : lexT s = (2, []) := by unfold lexT; rw [if_neg (by omega)]
  rw [e]
  go_enter Tryz.func29, Tryz.ntmps29
  go_wp2
  go_ret2
  exact ⟨_, rfl, World.ownsRow_nil _ _ _ _, Below.refl _ _⟩

set_option maxRecDepth 100000 in
set_option maxHeartbeats 1000000 in
theorem words_short (s : ByteArray) (w : World) (h : s.size ≤ 240) : Calls Tryz.prog 29 #[.string s] w fun e w' => ∃ v, e = .returned (.tuple #[v, errV (lexT s).1]) ∧ w'.ownsRow w.heap.size 9 1 v (lexT s).2.length ((lexT s).2.map Value.string) ∧ Below w.heap.size w w' := by
  obtain ⟨i0, hi, hz0, hz1, hz2⟩ := info_parts infoS
  have hm : Hid (s.size ≤ maxLen) := by show s.size ≤ 2 ^ 63 - 1; omega
  have hl := left_start s h
  generalize lexT s = T at hl
  have HL : Hid (Left_ s 0 [] T) := hl
  clear hl
  go_enter Tryz.func29, Tryz.ntmps29
  go_wp2_with fail
  go_loopw [4, 5] (fun v i wr => ∃ (k : Nat) (ws : List ByteArray), k ≤ s.size ∧ i = .int .i64 k ∧ ws.length ≤ 80 ∧ Hid (wr.ownsRow w.heap.size 9 1 v ws.length (ws.map Value.string)) ∧ Hid (Below w.heap.size w wr) ∧ Hid (Left_ s k ws T)) (fun _ i _ => s.size - (intOf i).toNat)
  case atStart => exact ⟨0, [], Nat.zero_le _, rfl, by simp, World.ownsRow_nil _ _ _ _, Below.refl _ _, HL⟩
  case round =>
    clear HL
    obtain ⟨k, ws, hk, rfl, hn, HO, HB, HL⟩ := hrel
    obtain ⟨ao, cap, rfl⟩ := owns_shape HO.out
    by_cases hlt : k < s.size
    · by_cases hb : bt s k = 32
      · have L := left_blank HL.out hlt hb
        have L := hid2 L
        have hb2 : ((s[k].toNat : Int) == 32) = true := by rw [bt_get s k hlt, hb]; rfl
        clear hb
        go_wp2_with fail
        go_roundw
        case rel => exact ⟨k + 1, ws, by omega, by go_num, hn, HO, HB, L⟩
        case measure => simp [intOf]; omega
      · have hb2 : ((s[k].toNat : Int) == 32) = false := by rw [bt_get s k hlt]; simpa using hb
        have HN := hid2 hb
        clear hb
        have hwl := wl_le s k hlt
        by_cases hw : wl s k = 0
        · have e := left_none HL.out hlt HN.out hw
          subst e
          have hw2 : (((wl s k : Nat) : Int) == 0) = true := by simp [hw]
          clear hw
          go_wp2_with (go_at_call 49; refine (wordLenAt s k _ hlt hm.out).mono ?_; rintro e w' ⟨rfl, rfl⟩)
          go_ret2
          exact ⟨_, rfl, World.ownsRow_nil _ _ _ _, HB.out⟩
        · have hw2 : (((wl s k : Nat) : Int) == 0) = false := by simp; omega
          have HW := hid2 hw
          clear hw
          by_cases hc : ws.length = 80
          · have e := left_many HL.out hlt HN.out HW.out hc
            subst e
            have hc2 : (((ws.length : Nat) : Int) == 80) = true := by simp [hc]
            clear hc
            go_wp2_with (go_at_call 49; refine (wordLenAt s k _ hlt hm.out).mono ?_; rintro e w' ⟨rfl, rfl⟩)
            go_ret2
            exact ⟨_, rfl, World.ownsRow_nil _ _ _ _, HB.out⟩
          · have L := hid2 (left_word HL.out hlt HN.out HW.out hc)
            have hc2 : (((ws.length : Nat) : Int) == 80) = false := by simp; omega
            have hc3 : ws.length + 1 ≤ 80 := by omega
            clear hc
            go_wp2_with (first | (go_at_call 49; refine (wordLenAt s k _ hlt hm.out).mono ?_; rintro e w' ⟨rfl, rfl⟩) | (at_builtin; go_must (refine wpList_append_own _ rfl (.tmp 32) (.tmp 39) 52 rfl w.heap.size 9 i0 (.string ⟨#[]⟩) 1 16 Tryz.underlying52 hi hz0 hz1 hz2 rfl (by decide) _ _ _ rfl (HO.out.alloc _) ⟨w'.heap.size, 0, none⟩ 1 1 [.string (s.extract k (k + wl s k))] rfl rfl (cell_one_new _ _ _) (by intro u hu; simp at hu; subst hu; rfl) (by show _ ≤ 2 ^ 63 - 1; omega) (by omega) (by have := HB.out.size; simp; omega) ?_)))
            intro v' w1 ho' hg _
            have R := own_word HB.out HO.out ho' hg
            have R := hid2 R
            clear ho' hg
            go_wp2_with fail
            go_roundw
            case rel => exact ⟨k + wl s k, _, by omega, by go_num, by simpa using hc3, R.out.1, R.out.2, L⟩
            case measure => simp [intOf]; have := HW.out; omega
    · have e := left_end HL.out (by omega)
      subst e
      have hge : ¬ ((k : Int) < (s.size : Int)) := by omega
      go_wp2_with fail
      go_ret2
      exact ⟨_, rfl, HO.out, HB.out⟩

theorem words_any (s : ByteArray) (w : World) : Calls Tryz.prog 29 #[.string s] w fun e w' => ∃ v, e = .returned (.tuple #[v, errV (lexT s).1]) ∧ w'.ownsRow w.heap.size 9 1 v (lexT s).2.length ((lexT s).2.map Value.string) ∧ Below w.heap.size w w' := by
  by_cases h : s.size ≤ 240
  · exact words_short s w h
  · exact words_long s w (by omega)
end Go.Proofs.YteaanpdckkmjoaaGreatDoor
/- Words of a text, with blanks between, are the same words: plain lists. Conditions: none. -/
namespace Go.Proofs.YteaanpdckkmjoaaGreatDoor

theorem wq_let (s : ByteArray) (k : Nat) (h : isLet (bt s k) = true) : wl s k = run isLet s k := by unfold wl; rw [if_pos h]
theorem wq_dig (s : ByteArray) (k : Nat) (h0 : isLet (bt s k) = false) (h : isDig (bt s k) = true) : wl s k = run isDig s k := by unfold wl; rw [h0, if_neg (by simp), if_pos h]
theorem wq_else (s : ByteArray) (k : Nat) (h0 : isLet (bt s k) = false) (h : isDig (bt s k) = false) : wl s k = if k + 1 < s.size ∧ isTwo (bt s k) (bt s (k + 1)) = true then 2 else if isSgn (bt s k) then 1 else 0 := by
  unfold wl; rw [h0, h, if_neg (by simp), if_neg (by simp)]


/-- what a word looks like -/
def wordy (l : List UInt8) : Prop :=
  l ≠ [] ∧ ((∀ c ∈ l, isLet (c.toNat : Int) = true) ∨ (∀ c ∈ l, isDig (c.toNat : Int) = true) ∨ (∃ a b, l = [a, b] ∧ isTwo (a.toNat : Int) (b.toNat : Int) = true) ∨ (∃ a, l = [a] ∧ isSgn (a.toNat : Int) = true))

theorem sgn_not {c : Int} (h : isSgn c = true) : isLet c = false ∧ isDig c = false ∧ c ≠ 32 := by
  simp only [isSgn, Bool.or_eq_true, beq_iff_eq] at h
  refine ⟨decide_eq_false ?_, decide_eq_false ?_, ?_⟩ <;> omega
theorem two_not {a b : Int} (h : isTwo a b = true) : isLet a = false ∧ isDig a = false ∧ a ≠ 32 ∧ b ≠ 32 := by
  simp only [isTwo, Bool.or_eq_true, Bool.and_eq_true, beq_iff_eq] at h
  refine ⟨decide_eq_false ?_, decide_eq_false ?_, ?_, ?_⟩ <;> omega
theorem dig_not {c : Int} (h : isDig c = true) : isLet c = false ∧ c ≠ 32 := by
  have := of_decide_eq_true h
  exact ⟨decide_eq_false (by omega), by omega⟩
theorem let_not {c : Int} (h : isLet c = true) : c ≠ 32 := by
  have := of_decide_eq_true h
  omega

theorem bt_at (t : ByteArray) (a : Nat) (l r : List UInt8) (h : t.data.toList.drop a = l ++ r) (j : Nat) (hj : j < l.length) : bt t (a + j) = (l[j].toNat : Int) := by
  unfold bt
  have e : t.data.toList.getD (a + j) 0 = (t.data.toList.drop a).getD j 0 := by simp [List.getD]
  rw [e, h]
  simp [List.getD, List.getElem?_append_left hj, hj]
theorem bt_behind (t : ByteArray) (a : Nat) (l r : List UInt8) (c : UInt8) (h : t.data.toList.drop a = l ++ c :: r) : bt t (a + l.length) = (c.toNat : Int) := by
  unfold bt
  have e : t.data.toList.getD (a + l.length) 0 = (t.data.toList.drop a).getD l.length 0 := by simp [List.getD]
  rw [e, h]
  simp [List.getD]
theorem size_behind (t : ByteArray) (a : Nat) (l r : List UInt8) (c : UInt8) (h : t.data.toList.drop a = l ++ c :: r) : a + l.length < t.size := by
  have := congrArg List.length h
  simp at this
  have := Lib.size_eq t
  simp at this
  omega

/-- a word with a blank behind it is read as it -/
theorem wl_wordy (t : ByteArray) (a : Nat) (l r : List UInt8) (h : t.data.toList.drop a = l ++ 32 :: r) (hw : wordy l) : wl t a = l.length ∧ bt t a ≠ 32 := by
  obtain ⟨hne, hw⟩ := hw
  have hp : 0 < l.length := List.length_pos_iff.2 hne
  have h0 := bt_at t a l (32 :: r) h 0 hp
  rw [Nat.add_zero] at h0
  have hb := bt_behind t a l r 32 h
  have hs := size_behind t a l r 32 h
  rcases hw with hw | hw | ⟨x, y, rfl, hw⟩ | ⟨x, rfl, hw⟩
  · have q : isLet (bt t a) = true := by rw [h0]; exact hw _ (List.getElem_mem _)
    refine ⟨?_, let_not q⟩
    rw [wq_let t a q, run_of isLet t a (a + l.length) (by omega) (by omega) ?_ (.inr (by rw [hb]; rfl))]
    · omega
    · intro j h1 h2
      have := bt_at t a l (32 :: r) h (j - a) (by omega)
      rw [show a + (j - a) = j by omega] at this
      rw [this]; exact hw _ (List.getElem_mem _)
  · have q : isDig (bt t a) = true := by rw [h0]; exact hw _ (List.getElem_mem _)
    refine ⟨?_, (dig_not q).2⟩
    rw [wq_dig t a (dig_not q).1 q, run_of isDig t a (a + l.length) (by omega) (by omega) ?_ (.inr (by rw [hb]; rfl))]
    · omega
    · intro j h1 h2
      have := bt_at t a l (32 :: r) h (j - a) (by omega)
      rw [show a + (j - a) = j by omega] at this
      rw [this]; exact hw _ (List.getElem_mem _)
  · have h1 := bt_at t a [x, y] (32 :: r) h 1 (by simp)
    simp at h0 h1 hs
    have q := two_not hw
    rw [← h0, ← h1] at hw
    rw [← h0] at q
    refine ⟨?_, q.2.2.1⟩
    rw [wq_else t a q.1 q.2.1, if_pos ⟨by omega, hw⟩]
    rfl
  · simp at h0 hb hs
    have q := sgn_not hw
    rw [← h0] at q hw
    refine ⟨?_, q.2.2⟩
    rw [wq_else t a q.1 q.2.1, if_neg, if_pos hw]
    · rfl
    · rintro ⟨_, q2⟩
      exact (two_not q2).2.2.2 hb

theorem runN_all (p : Int → Bool) (s : ByteArray) : ∀ f a j, j < runN p s f a → p (bt s (a + j)) = true
  | 0, a, j, h => absurd h (by unfold runN; omega)
  | f + 1, a, j, h => by
    unfold runN at h
    split at h
    · rename_i q
      cases j with
      | zero => exact q.2
      | succ j =>
        have := runN_all p s f (a + 1) j (by omega)
        rwa [show a + 1 + j = a + (j + 1) by omega] at this
    · omega

theorem ext_get (s : ByteArray) (a n j : Nat) (h : a + n ≤ s.size) (hj : j < ((s.data.toList.drop a).take n).length) : ((((s.data.toList.drop a).take n)[j]).toNat : Int) = bt s (a + j) := by
  unfold bt
  rw [Lib.size_eq] at h
  generalize s.data.toList = l at *
  have hl : a + j < l.length := by
    rw [List.length_take, List.length_drop] at hj
    omega
  simp [List.getD, hl]

theorem drop_past (l r : List UInt8) (c : UInt8) : List.drop (l.length + 1) (l ++ c :: r) = r := by
  induction l with
  | nil => rfl
  | cons x l ih => simp

/-- what is read as a word looks like one -/
theorem wordy_of (s : ByteArray) (a : Nat) (h : a < s.size) (hw : wl s a ≠ 0) : wordy (s.extract a (a + wl s a)).data.toList := by
  have hle := wl_le s a h
  rw [Lib.extract_data, show a + wl s a - a = wl s a by omega]
  have hlen : ((s.data.toList.drop a).take (wl s a)).length = wl s a := by
    have := Lib.size_eq s
    simp at this ⊢
    omega
  refine ⟨fun e => hw (by rw [← hlen, e]; rfl), ?_⟩
  have all : ∀ p : Int → Bool, (∀ j, j < wl s a → p (bt s (a + j)) = true) → ∀ c ∈ (s.data.toList.drop a).take (wl s a), p (c.toNat : Int) = true := by
    intro p hp c hc
    obtain ⟨j, hj, rfl⟩ := List.mem_iff_getElem.1 hc
    rw [ext_get s a (wl s a) j hle hj]
    exact hp j (by omega)
  cases hL : isLet (bt s a)
  · cases hD : isDig (bt s a)
    · have e := wq_else s a hL hD
      by_cases h2 : a + 1 < s.size ∧ isTwo (bt s a) (bt s (a + 1)) = true
      · rw [if_pos h2] at e
        rw [e] at hlen hle ⊢
        match hl : (s.data.toList.drop a).take 2, hlen with
        | [x, y], _ =>
          have g0 := ext_get s a 2 0 hle (by rw [hl]; simp)
          have g1 := ext_get s a 2 1 hle (by rw [hl]; simp)
          simp only [hl] at g0 g1
          simp at g0 g1
          exact .inr (.inr (.inl ⟨x, y, rfl, by rw [g0, g1]; exact h2.2⟩))
      · rw [if_neg h2] at e
        cases hS : isSgn (bt s a)
        · rw [hS] at e; exact absurd e hw
        · rw [hS, if_pos rfl] at e
          rw [e] at hlen hle ⊢
          match hl : (s.data.toList.drop a).take 1, hlen with
          | [x], _ =>
            have g0 := ext_get s a 1 0 hle (by rw [hl]; simp)
            simp only [hl] at g0
            simp at g0
            exact .inr (.inr (.inr ⟨x, rfl, by rw [g0]; exact hS⟩))
    · refine .inr (.inl (all isDig fun j hj => ?_))
      rw [wq_dig s a hL hD] at hj
      exact runN_all isDig s _ a j hj
  · refine .inl (all isLet fun j hj => ?_)
    rw [wq_let s a hL] at hj
    exact runN_all isLet s _ a j hj

/-- the words of a text look like words, and are not too many -/
theorem lexF_wordy (s : ByteArray) : ∀ f a ws, (∀ x ∈ ws, wordy x.data.toList) → ws.length ≤ 80 → ∀ x ∈ (lexF s f a ws).2, wordy x.data.toList
  | 0, _, ws, h, _ => h
  | f + 1, a, ws, h, hn => by
    unfold lexF
    by_cases h1 : a < s.size
    · rw [if_pos h1]
      by_cases h2 : bt s a = 32
      · rw [if_pos h2]; exact lexF_wordy s f _ _ h hn
      · rw [if_neg h2]
        by_cases h3 : wl s a = 0
        · rw [if_pos h3]; intro x hx; simp at hx
        · rw [if_neg h3]
          by_cases h4 : ws.length = 80
          · rw [if_pos h4]; intro x hx; simp at hx
          · rw [if_neg h4]
            refine lexF_wordy s f _ _ ?_ (by simp; omega)
            intro x hx
            rcases List.mem_append.1 hx with hx | hx
            · exact h x hx
            · simp at hx; subst hx; exact wordy_of s a h1 h3
    · rw [if_neg h1]; exact h
theorem lexF_few (s : ByteArray) : ∀ f a ws, ws.length ≤ 80 → (lexF s f a ws).2.length ≤ 80
  | 0, _, ws, hn => hn
  | f + 1, a, ws, hn => by
    unfold lexF
    repeat' split
    all_goals first | exact lexF_few s f _ _ hn | (refine lexF_few s f _ _ ?_; simp; omega) | exact hn | simp
theorem lexT_wordy (s : ByteArray) : ∀ x ∈ (lexT s).2, wordy x.data.toList := by
  unfold lexT
  split
  · exact lexF_wordy s _ _ _ (fun x hx => by simp at hx) (by simp)
  · intro x hx; simp at hx
theorem lexT_few (s : ByteArray) : (lexT s).2.length ≤ 80 := by
  unfold lexT
  split
  · exact lexF_few s _ _ _ (by simp)
  · simp

theorem lexF_small (s : ByteArray) : ∀ f a ws, (∀ x ∈ ws, x.size ≤ s.size) → ∀ x ∈ (lexF s f a ws).2, x.size ≤ s.size
  | 0, _, ws, h => h
  | f + 1, a, ws, h => by
    unfold lexF
    by_cases h1 : a < s.size
    · rw [if_pos h1]
      by_cases h2 : bt s a = 32
      · rw [if_pos h2]; exact lexF_small s f _ _ h
      · rw [if_neg h2]
        by_cases h3 : wl s a = 0
        · rw [if_pos h3]; intro x hx; simp at hx
        · rw [if_neg h3]
          by_cases h4 : ws.length = 80
          · rw [if_pos h4]; intro x hx; simp at hx
          · rw [if_neg h4]
            refine lexF_small s f _ _ ?_
            intro x hx
            rcases List.mem_append.1 hx with hx | hx
            · exact h x hx
            · simp at hx; subst hx
              have := wl_le s a h1
              rw [Lib.size_eq, Lib.extract_data, List.length_take, List.length_drop, ← Lib.size_eq]
              omega
    · rw [if_neg h1]; exact h
theorem lexF_err (s : ByteArray) : ∀ f a ws, (lexF s f a ws).1 ≠ 0 → (lexF s f a ws).2 = []
  | 0, _, ws, h => absurd rfl h
  | f + 1, a, ws, h => by
    unfold lexF at h ⊢
    by_cases h1 : a < s.size
    · rw [if_pos h1] at h ⊢
      by_cases h2 : bt s a = 32
      · rw [if_pos h2] at h ⊢; exact lexF_err s f _ _ h
      · rw [if_neg h2] at h ⊢
        by_cases h3 : wl s a = 0
        · rw [if_pos h3]
        · rw [if_neg h3] at h ⊢
          by_cases h4 : ws.length = 80
          · rw [if_pos h4]
          · rw [if_neg h4] at h ⊢; exact lexF_err s f _ _ h
    · rw [if_neg h1] at h; exact absurd rfl h
theorem lexT_err (s : ByteArray) (h : (lexT s).1 ≠ 0) : (lexT s).2 = [] := by
  unfold lexT at h ⊢
  by_cases h1 : s.size ≤ 240
  · rw [if_pos h1] at h ⊢; exact lexF_err s _ _ _ h
  · rw [if_neg h1]
theorem lexT_small (s : ByteArray) : ∀ x ∈ (lexT s).2, x.size ≤ s.size := by
  unfold lexT
  split
  · exact lexF_small s _ _ _ (fun x hx => by simp at hx)
  · intro x hx; simp at hx

/-- words, a blank behind each -/
def joined (us : List ByteArray) : List UInt8 := (us.map fun u => u.data.toList ++ [32]).flatten

theorem joined_take (us : List ByteArray) (k : Nat) (h : k < us.length) : joined (us.take (k + 1)) = joined (us.take k) ++ ((us.getD k ⟨#[]⟩).data.toList ++ [32]) := by
  have e : us.getD k ⟨#[]⟩ = us[k] := by simp [List.getD, h]
  rw [e, List.take_succ_eq_append_getElem h]
  unfold joined
  rw [List.map_append, List.flatten_append, List.map_singleton, List.flatten_singleton]

theorem lexF_joined (t : ByteArray) : ∀ (us : List ByteArray) (f a : Nat) (ws : List ByteArray), t.size - a ≤ f → t.data.toList.drop a = joined us → (∀ x ∈ us, wordy x.data.toList) → ws.length + us.length ≤ 80 → lexF t f a ws = (0, ws ++ us)
  | [], f, a, ws, hf, hd, _, _ => by
    have : t.size ≤ a := by
      have h1 : t.data.toList.drop a = [] := hd
      have h2 := List.drop_eq_nil_iff.1 h1
      have := Lib.size_eq t
      omega
    cases f with
    | zero => simp [lexF]
    | succ f => unfold lexF; rw [if_neg (by omega)]; simp
  | u :: us, f, a, ws, hf, hd, hw, hn => by
    have hd' : t.data.toList.drop a = u.data.toList ++ 32 :: joined us := by
      rw [hd]; simp [joined]
    have hu := hw u (List.mem_cons_self ..)
    obtain ⟨e1, e2⟩ := wl_wordy t a _ _ hd' hu
    have hs := size_behind t a _ _ 32 hd'
    have hp : 0 < u.data.toList.length := List.length_pos_iff.2 hu.1
    have hb := bt_behind t a _ _ 32 hd'
    have hx : t.extract a (a + wl t a) = u := by
      rw [Lib.extract_eq, e1, show a + u.data.toList.length - a = u.data.toList.length by omega, hd']
      simp
    obtain ⟨f, rfl⟩ : ∃ g, f = g + 2 := ⟨f - 2, by omega⟩
    simp at hn
    rw [lexF, if_pos (by omega), if_neg e2, if_neg (by omega), if_neg (by omega), hx, e1, lexF, if_pos hs, if_pos (by rw [hb]; rfl)]
    have hr : t.data.toList.drop (a + u.data.toList.length + 1) = joined us := by
      rw [Nat.add_assoc, ← List.drop_drop, hd']
      exact drop_past _ _ _
    rw [lexF_joined t us f _ _ (by omega) hr (fun x hx => hw x (List.mem_cons_of_mem _ hx)) (by simp; omega)]
    simp

theorem lexF_blanks (t : ByteArray) (us : List ByteArray) (hw : ∀ x ∈ us, wordy x.data.toList) (hn : us.length ≤ 80) : ∀ (j f a : Nat), t.size - a ≤ f → t.data.toList.drop a = List.replicate j 32 ++ joined us → lexF t f a [] = (0, us)
  | 0, f, a, hf, hd => by
    rw [lexF_joined t us f a [] hf (by simpa using hd) hw (by simpa using hn)]
    simp
  | j + 1, f, a, hf, hd => by
    have hd' : t.data.toList.drop a = [] ++ 32 :: (List.replicate j 32 ++ joined us) := by rw [hd]; simp [List.replicate_succ]
    have hb := bt_behind t a [] _ 32 hd'
    have hs := size_behind t a [] _ 32 hd'
    simp at hb hs
    obtain ⟨f, rfl⟩ : ∃ g, f = g + 1 := ⟨f - 1, by omega⟩
    rw [lexF, if_pos hs, if_pos hb]
    refine lexF_blanks t us hw hn j f (a + 1) (by omega) ?_
    rw [← List.drop_drop, hd']
    simp

theorem lexT_again (s t : ByteArray) (j : Nat) (ht : t.size ≤ 240) (hd : t.data.toList = List.replicate j 32 ++ joined (lexT s).2) : lexT t = (0, (lexT s).2) := by
  have e : lexT t = lexF t t.size 0 [] := by unfold lexT; rw [if_pos ht]
  rw [e]
  exact lexF_blanks t _ (lexT_wordy s) (lexT_few s) j _ 0 (by omega) (by simpa using hd)
end Go.Proofs.YteaanpdckkmjoaaGreatDoor
/- What a question's text is read as: plain functions on words. Conditions: none. -/
namespace Go.Proofs.YteaanpdckkmjoaaGreatDoor

abbrev Ws := List ByteArray
abbrev PR := Except Int (List Nd × Ws)
/-- the next word, if it is this one -/
def tk (word : ByteArray) : Ws → Option Ws
  | [] => none
  | w :: r => if w = word then some r else none
structure Sg where
  rank : Int
  op : Int
  turned : Bool
  denied : Bool
  deriving DecidableEq
def wSelect : ByteArray := ⟨#[115, 101, 108, 101, 99, 116]⟩
def wFrom : ByteArray := ⟨#[102, 114, 111, 109]⟩
def wEvents : ByteArray := ⟨#[101, 118, 101, 110, 116, 115]⟩
def wWhere : ByteArray := ⟨#[119, 104, 101, 114, 101]⟩
def wGroup : ByteArray := ⟨#[103, 114, 111, 117, 112]⟩
def wBy : ByteArray := ⟨#[98, 121]⟩
def wWindow : ByteArray := ⟨#[119, 105, 110, 100, 111, 119]⟩
def wSlide : ByteArray := ⟨#[115, 108, 105, 100, 101]⟩
def wDelay : ByteArray := ⟨#[100, 101, 108, 97, 121]⟩
def wLate : ByteArray := ⟨#[108, 97, 116, 101]⟩
def wNot : ByteArray := ⟨#[110, 111, 116]⟩
def wIs : ByteArray := ⟨#[105, 115]⟩
def wNull : ByteArray := ⟨#[110, 117, 108, 108]⟩
def wTrue : ByteArray := ⟨#[116, 114, 117, 101]⟩
def wFalse : ByteArray := ⟨#[102, 97, 108, 115, 101]⟩
def wOr : ByteArray := ⟨#[111, 114]⟩
def wAnd : ByteArray := ⟨#[97, 110, 100]⟩
def wOpen : ByteArray := ⟨#[40]⟩
def wClose : ByteArray := ⟨#[41]⟩
def wComma : ByteArray := ⟨#[44]⟩
def wStar : ByteArray := ⟨#[42]⟩
def wPlus : ByteArray := ⟨#[43]⟩
def wMinus : ByteArray := ⟨#[45]⟩
def wLt : ByteArray := ⟨#[60]⟩
def wGt : ByteArray := ⟨#[62]⟩
def wEq : ByteArray := ⟨#[61]⟩
def wLe : ByteArray := ⟨#[60, 61]⟩
def wGe : ByteArray := ⟨#[62, 61]⟩
def wNe : ByteArray := ⟨#[60, 62]⟩
def wCount : ByteArray := ⟨#[99, 111, 117, 110, 116]⟩
def wSum : ByteArray := ⟨#[115, 117, 109]⟩
def wMin : ByteArray := ⟨#[109, 105, 110]⟩
def wMax : ByteArray := ⟨#[109, 97, 120]⟩
def wT : ByteArray := ⟨#[116]⟩
def wK : ByteArray := ⟨#[107]⟩
def wA : ByteArray := ⟨#[97]⟩
def wB : ByteArray := ⟨#[98]⟩
/-- the signs between two parts, as they are laid -/
def sgL : List (ByteArray × Sg) := [(wOr, ⟨0, 10, false, false⟩), (wAnd, ⟨1, 9, false, false⟩), (wLt, ⟨2, 11, false, false⟩), (wGt, ⟨2, 11, true, false⟩), (wLe, ⟨2, 11, true, true⟩), (wGe, ⟨2, 11, false, true⟩), (wEq, ⟨2, 12, false, false⟩), (wNe, ⟨2, 12, false, true⟩), (wPlus, ⟨3, 6, false, false⟩), (wMinus, ⟨3, 7, false, false⟩), (wStar, ⟨4, 8, false, false⟩)]
def sgIn : List (ByteArray × Sg) → ByteArray → Option Sg
  | [], _ => none
  | p :: l, w => if w = p.1 then some p.2 else sgIn l w
def sgOf (w : ByteArray) : Option Sg := sgIn sgL w
def tkS (rank : Int) : Ws → Option (Sg × Ws)
  | [] => none
  | w :: r => match sgOf w with
    | none => none
    | some s => if s.rank = rank then some (s, r) else none
def jn1 (op : Int) (x : List Nd) : Except Int (List Nd) := if 40 < x.length + 1 then .error 2 else .ok (join1 op x)
def jn2 (op : Int) (x y : List Nd) : Except Int (List Nd) := if 40 < x.length + y.length + 1 then .error 2 else .ok (joinL op x y)
def jnD (dn : Bool) (r : Except Int (List Nd)) : Except Int (List Nd) := match r with
  | .error c => .error c
  | .ok l => if dn then jn1 4 l else .ok l
def jnS (s : Sg) (x y : List Nd) : Except Int (List Nd) := jnD s.denied (if s.turned then jn2 s.op y x else jn2 s.op x y)
/-- what was put together, and the words that are left -/
def wth (ws : Ws) (r : Except Int (List Nd)) : PR := match r with
  | .error c => .error c
  | .ok l => .ok (l, ws)
/-- a number's digits, up to most -/
def natM (most : Nat) : Nat → List UInt8 → Option Nat
  | acc, [] => some acc
  | acc, c :: r => if c.toNat < 48 ∨ 57 < c.toNat then none else if most < 10 * acc + (c.toNat - 48) then none else natM most (10 * acc + (c.toNat - 48)) r
def numQ (most : Nat) (w : ByteArray) : Option Nat := if w.data.toList = [] then none else natM most 0 w.data.toList
def fldQ (w : ByteArray) : Option Int := if w = wT then some 0 else if w = wK then some 1 else if w = wA then some 2 else if w = wB then some 3 else none
/-- a node of a word that stands for itself -/
def leafQ (w : ByteArray) : Option Nd :=
  match fldQ w with
  | some i => some ⟨2, 0, 0, i, 0, 0⟩
  | none => if w = wNull then some ⟨1, 0, 0, 0, 0, 0⟩ else if w = wFalse then some ⟨1, 0, 0, 0, 2, 0⟩ else if w = wTrue then some ⟨1, 0, 0, 0, 2, 1⟩ else
    match numQ 1000000000 w with
    | some n => some ⟨1, 0, 0, 0, 1, n⟩
    | none => none
def rowL (inner : Ws → PR) (rank : Int) : Nat → List Nd → Ws → PR
  | 0, _, _ => .error 99
  | k + 1, x, ws => match tkS rank ws with
    | none => .ok (x, ws)
    | some (s, ws1) => match inner ws1 with
      | .error c => .error c
      | .ok (y, ws2) => match jnS s x y with
        | .error c => .error c
        | .ok z => rowL inner rank k z ws2
def rowP (inner : Ws → PR) (rank : Int) (k : Nat) (ws : Ws) : PR := match inner ws with
  | .error c => .error c
  | .ok (x, ws1) => rowL inner rank k x ws1
/-- what is read one deeper -/
def deepP (inner : Ws → Nat → PR) (ws : Ws) (d : Nat) : PR := if d = 12 then .error 2 else inner ws (d + 1)
def aheadP (op : Int) (r : PR) : PR := match r with
  | .error c => .error c
  | .ok (x, ws) => wth ws (jn1 op x)
def nullP (x : List Nd) (dn : Bool) (ws : Ws) : PR := match tk wNull ws with
  | none => .error 4
  | some ws1 => wth ws1 (jnD dn (jn1 5 x))
def isP (x : List Nd) (ws : Ws) : PR := match tk wNot ws with
  | some ws1 => nullP x true ws1
  | none => nullP x false ws
def cmpP (inner : Ws → PR) (x : List Nd) (ws : Ws) : PR := match tk wIs ws with
  | some ws1 => isP x ws1
  | none => match tkS 2 ws with
    | none => .ok (x, ws)
    | some (s, ws1) => match inner ws1 with
      | .error c => .error c
      | .ok (y, ws2) => wth ws2 (jnS s x y)
def closeP (r : PR) : PR := match r with
  | .error c => .error c
  | .ok (x, ws) => match tk wClose ws with
    | none => .error 4
    | some ws1 => .ok (x, ws1)
def leafP : Ws → PR
  | [] => .error 4
  | w :: r => match leafQ w with
    | none => .error 4
    | some n => .ok ([n], r)
/-- the levels of an expression: 0 or, 1 and, 2 not, 3 what is compared, 4 sums, 5 products, 6 what has '-' ahead, 7 the rest -/
def lev : Nat → Nat → Ws → Nat → PR
  | 0, _, _, _ => .error 99
  | f + 1, 0, ws, d => rowP (fun ws => lev f 1 ws d) 0 f ws
  | f + 1, 1, ws, d => rowP (fun ws => lev f 2 ws d) 1 f ws
  | f + 1, 2, ws, d => match tk wNot ws with
    | some ws1 => aheadP 4 (deepP (fun ws d => lev f 2 ws d) ws1 d)
    | none => lev f 3 ws d
  | f + 1, 3, ws, d => match lev f 4 ws d with
    | .error c => .error c
    | .ok (x, ws1) => cmpP (fun ws => lev f 4 ws d) x ws1
  | f + 1, 4, ws, d => rowP (fun ws => lev f 5 ws d) 3 f ws
  | f + 1, 5, ws, d => rowP (fun ws => lev f 6 ws d) 4 f ws
  | f + 1, 6, ws, d => match tk wMinus ws with
    | some ws1 => aheadP 3 (deepP (fun ws d => lev f 6 ws d) ws1 d)
    | none => lev f 7 ws d
  | f + 1, _ + 7, ws, d => match tk wOpen ws with
    | some ws1 => closeP (deepP (fun ws d => lev f 0 ws d) ws1 d)
    | none => leafP ws
/-- enough for any text -/
def FU : Nat := 1000
structure AgQ where
  kind : Int
  of : List Nd
structure Qy where
  aggs : List AgQ
  wh : List Nd
  bys : List Nd
  size : Int
  slide : Int
  delay : Int
  late : Int
def aggK (ws : Ws) : Option (Int × Ws) := match tk wCount ws with
  | some r => some (2, r)
  | none => match tk wSum ws with
    | some r => some (3, r)
    | none => match tk wMin ws with
      | some r => some (4, r)
      | none => match tk wMax ws with
        | some r => some (5, r)
        | none => none
def mustP {α : Type} (word : ByteArray) (ws : Ws) (k : Ws → Except Int α) : Except Int α := match tk word ws with
  | none => .error 4
  | some r => k r
def starP (k : Int) (ws : Ws) : Option Ws := if k = 2 then tk wStar ws else none
def exprP {α : Type} (ws : Ws) (k : List Nd → Ws → Except Int α) : Except Int α := match lev FU 0 ws 0 with
  | .error c => .error c
  | .ok (l, r) => k l r
def aggrP (ws : Ws) : Except Int (AgQ × Ws) := match aggK ws with
  | none => .error 4
  | some (k, ws1) => mustP wOpen ws1 fun ws2 => match starP k ws2 with
    | some ws3 => mustP wClose ws3 fun ws4 => .ok (⟨1, []⟩, ws4)
    | none => exprP ws2 fun l ws3 => mustP wClose ws3 fun ws4 => .ok (⟨k, l⟩, ws4)
def aggsP : Nat → List AgQ → Ws → Except Int (List AgQ × Ws)
  | 0, _, _ => .error 99
  | k + 1, l, ws => match tk wComma ws with
    | none => .ok (l, ws)
    | some ws1 => match aggrP ws1 with
      | .error c => .error c
      | .ok (a, ws2) => aggsP k (l ++ [a]) ws2
def spanP {α : Type} (ws : Ws) (k : Int → Ws → Except Int α) : Except Int α := match ws with
  | [] => .error 4
  | w :: r => match numQ 1000 w with
    | none => .error 4
    | some n => k n r
def optP {α : Type} (word : ByteArray) (dflt : Int) (ws : Ws) (k : Int → Ws → Except Int α) : Except Int α := match tk word ws with
  | none => k dflt ws
  | some ws1 => spanP ws1 k
def whereP {α : Type} (ws : Ws) (k : List Nd → Ws → Except Int α) : Except Int α := match tk wWhere ws with
  | none => k [] ws
  | some ws1 => exprP ws1 k
def groupP {α : Type} (ws : Ws) (k : List Nd → Ws → Except Int α) : Except Int α := match tk wGroup ws with
  | none => k [] ws
  | some ws1 => mustP wBy ws1 fun ws2 => exprP ws2 k
def endP (q : Qy) (ws : Ws) : Except Int Qy := if ws = [] then .ok q else .error 4
def tailP (aggs : List AgQ) (ws : Ws) : Except Int Qy :=
  mustP wFrom ws fun ws => mustP wEvents ws fun ws => whereP ws fun wh ws => groupP ws fun bys ws => mustP wWindow ws fun ws => spanP ws fun size ws =>
    optP wSlide size ws fun slide ws => optP wDelay 0 ws fun delay ws => optP wLate 0 ws fun late ws => endP ⟨aggs, wh, bys, size, slide, delay, late⟩ ws
def questP (ws : Ws) : Except Int Qy := mustP wSelect ws fun ws => match aggrP ws with
  | .error c => .error c
  | .ok (a, ws1) => match aggsP FU [a] ws1 with
    | .error c => .error c
    | .ok (l, ws2) => tailP l ws2
/-- of which kind an expression's values are; the error -/
def kindQ (l : List Nd) : V2 := if chkE l ≠ 0 then (0, chkE l) else tyE l
def chkA (a : AgQ) : Int := if a.kind < 1 ∨ 5 < a.kind then 3 else if a.kind = 1 then (if 0 < a.of.length then 3 else 0) else if (kindQ a.of).2 ≠ 0 then (kindQ a.of).2 else if (kindQ a.of).1 = 2 ∧ a.kind ≠ 2 then 3 else 0
def chkAs : List AgQ → Int
  | [] => 0
  | a :: l => if chkA a ≠ 0 then chkA a else chkAs l
def chkW (l : List Nd) : Int := if l.length = 0 then 0 else if (kindQ l).2 ≠ 0 then (kindQ l).2 else if (kindQ l).1 = 1 then 3 else 0
def chkB (l : List Nd) : Int := if l.length = 0 then 0 else (kindQ l).2
def chkS (q : Qy) : Int := if q.size < 1 ∨ 1000 < q.size ∨ q.slide < 1 ∨ 1000 < q.slide ∨ q.delay < 0 ∨ 1000 < q.delay ∨ q.late < 0 ∨ 1000 < q.late then 1 else if q.size < q.slide ∨ 4 * q.slide < q.size then 3 else 0
def chkQ (q : Qy) : Int := if q.aggs.length = 0 ∨ 4 < q.aggs.length then 2 else if chkAs q.aggs ≠ 0 then chkAs q.aggs else if chkW q.wh ≠ 0 then chkW q.wh else if chkB q.bys ≠ 0 then chkB q.bys else chkS q
/-- what a text is read as -/
def parseQ (s : ByteArray) : Except Int Qy := if (lexT s).1 ≠ 0 then .error (lexT s).1 else match questP (lexT s).2 with
  | .error c => .error c
  | .ok q => if chkQ q ≠ 0 then .error (chkQ q) else .ok q

/-! The levels end: with enough steps none runs out, and each takes a word at least. -/
theorem tk_len {word : ByteArray} {ws r : Ws} (h : tk word ws = some r) : r.length + 1 = ws.length := by
  cases ws with
  | nil => simp [tk] at h
  | cons w ws =>
    simp only [tk] at h
    by_cases e : w = word
    · rw [if_pos e] at h
      cases h
      rfl
    · rw [if_neg e] at h
      cases h
theorem tkS_len {rank : Int} {ws r : Ws} {s : Sg} (h : tkS rank ws = some (s, r)) : r.length + 1 = ws.length := by
  cases ws with
  | nil => simp [tkS] at h
  | cons w ws =>
    simp only [tkS] at h
    cases hs : sgOf w with
    | none => rw [hs] at h; cases h
    | some q =>
      rw [hs] at h
      simp only at h
      by_cases e : q.rank = rank
      · rw [if_pos e] at h
        cases h
        rfl
      · rw [if_neg e] at h
        cases h
/-- no step lacks, and words were taken -/
def Fine (ws : Ws) (r : PR) : Prop := r ≠ .error 99 ∧ ∀ l ws', r = .ok (l, ws') → ws'.length < ws.length
theorem jn1_99 (op : Int) (x : List Nd) : jn1 op x ≠ .error 99 := by
  unfold jn1
  split
  · intro h; injection h with h; exact absurd h (by decide)
  · intro h; cases h
theorem jn2_99 (op : Int) (x y : List Nd) : jn2 op x y ≠ .error 99 := by
  unfold jn2
  split
  · intro h; injection h with h; exact absurd h (by decide)
  · intro h; cases h
theorem jnD_99 (dn : Bool) (r : Except Int (List Nd)) (h : r ≠ .error 99) : jnD dn r ≠ .error 99 := by
  unfold jnD
  cases r with
  | error c => exact fun e => h (by injection e with e; rw [e])
  | ok l =>
    simp only
    split
    · exact jn1_99 _ _
    · intro h; cases h
theorem jnS_99 (s : Sg) (x y : List Nd) : jnS s x y ≠ .error 99 := by
  unfold jnS
  apply jnD_99
  split <;> exact jn2_99 _ _ _
theorem wth_fine {ws ws0 : Ws} {r : Except Int (List Nd)} (h : r ≠ .error 99) (hl : ws.length < ws0.length) : Fine ws0 (wth ws r) := by
  cases r with
  | error c => exact ⟨fun e => h (by injection e with e; rw [e]), fun l ws' e => by cases e⟩
  | ok l => exact ⟨(fun e => by cases e), fun l' ws' e => by cases e; exact hl⟩
theorem fine_err {ws : Ws} {c : Int} (h : c ≠ 99) : Fine ws (.error c) := ⟨fun e => h (by injection e), fun l ws' e => by cases e⟩
theorem fine_le {ws ws0 : Ws} {r : PR} (h : Fine ws r) (hl : ws.length ≤ ws0.length) : Fine ws0 r := ⟨h.1, fun l ws' e => by have := h.2 l ws' e; omega⟩
theorem rowL_fine (inner : Ws → PR) (rank : Int) (ws0 : Ws) (hin : ∀ ws : Ws, ws.length < ws0.length → Fine ws (inner ws)) : ∀ (k : Nat) (x : List Nd) (ws : Ws), ws.length < k → ws.length < ws0.length → Fine ws0 (rowL inner rank k x ws)
  | 0, x, ws, h, _ => by omega
  | k + 1, x, ws, h, h0 => by
    unfold rowL
    cases hs : tkS rank ws with
    | none => exact ⟨(fun e => by cases e), fun l ws' e => by cases e; exact h0⟩
    | some p =>
      obtain ⟨s, ws1⟩ := p
      have h1 := tkS_len hs
      have hf := hin ws1 (by omega)
      simp only
      cases hi : inner ws1 with
      | error c => rw [hi] at hf; exact ⟨fun e => hf.1 (by injection e with e; rw [e]), fun l ws' e => by cases e⟩
      | ok q =>
        obtain ⟨y, ws2⟩ := q
        rw [hi] at hf
        have h2 := hf.2 y ws2 rfl
        simp only
        have hj := jnS_99 s x y
        cases hz : jnS s x y with
        | error c => rw [hz] at hj; exact ⟨fun e => hj (by injection e with e; rw [e]), fun l ws' e => by cases e⟩
        | ok z => exact rowL_fine inner rank ws0 hin k z ws2 (by omega) (by omega)
theorem rowP_fine (inner : Ws → PR) (rank : Int) (k : Nat) (ws : Ws) (hin : ∀ ws' : Ws, ws'.length ≤ ws.length → Fine ws' (inner ws')) (hk : ws.length ≤ k) : Fine ws (rowP inner rank k ws) := by
  have hf := hin ws (Nat.le_refl _)
  unfold rowP
  cases hi : inner ws with
  | error c => rw [hi] at hf; exact ⟨fun e => hf.1 (by injection e with e; rw [e]), fun l ws' e => by cases e⟩
  | ok p =>
    obtain ⟨x, ws1⟩ := p
    rw [hi] at hf
    have h1 := hf.2 x ws1 rfl
    exact rowL_fine inner rank ws (fun ws' h => hin ws' (by omega)) k x ws1 (by omega) h1
theorem deep_fine (inner : Ws → Nat → PR) (ws : Ws) (d : Nat) (h : ∀ d', Fine ws (inner ws d')) : Fine ws (deepP inner ws d) := by
  unfold deepP
  split
  · exact fine_err (by decide)
  · exact h _
theorem ahead_fine (op : Int) (ws : Ws) (r : PR) (h : Fine ws r) : Fine ws (aheadP op r) := by
  unfold aheadP
  cases r with
  | error c => exact ⟨fun e => h.1 (by injection e with e; rw [e]), fun l ws' e => by cases e⟩
  | ok p =>
    obtain ⟨x, ws1⟩ := p
    exact wth_fine (jn1_99 _ _) (h.2 x ws1 rfl)
theorem null_fine (x : List Nd) (dn : Bool) (ws ws0 : Ws) (h : ws.length < ws0.length) : Fine ws0 (nullP x dn ws) := by
  unfold nullP
  cases ht : tk wNull ws with
  | none => exact fine_err (by decide)
  | some ws1 => exact wth_fine (jnD_99 _ _ (jn1_99 _ _)) (by have := tk_len ht; omega)
theorem cmp_fine (inner : Ws → PR) (x : List Nd) (ws ws0 : Ws) (hl : ws.length < ws0.length) (hin : ∀ ws' : Ws, ws'.length < ws0.length → Fine ws' (inner ws')) : Fine ws0 (cmpP inner x ws) := by
  unfold cmpP
  cases ht : tk wIs ws with
  | some ws1 =>
    have := tk_len ht
    simp only
    unfold isP
    cases hn : tk wNot ws1 with
    | some ws2 => have := tk_len hn; exact null_fine _ _ _ _ (by omega)
    | none => exact null_fine _ _ _ _ (by omega)
  | none =>
    simp only
    cases hs : tkS 2 ws with
    | none => exact ⟨(fun e => by cases e), fun l ws' e => by cases e; exact hl⟩
    | some p =>
      obtain ⟨s, ws1⟩ := p
      have h1 := tkS_len hs
      have hf := hin ws1 (by omega)
      simp only
      cases hi : inner ws1 with
      | error c => rw [hi] at hf; exact ⟨fun e => hf.1 (by injection e with e; rw [e]), fun l ws' e => by cases e⟩
      | ok q =>
        obtain ⟨y, ws2⟩ := q
        rw [hi] at hf
        have h2 := hf.2 y ws2 rfl
        exact wth_fine (jnS_99 _ _ _) (by omega)
theorem close_fine (ws : Ws) (r : PR) (h : Fine ws r) : Fine ws (closeP r) := by
  unfold closeP
  cases r with
  | error c => exact ⟨fun e => h.1 (by injection e with e; rw [e]), fun l ws' e => by cases e⟩
  | ok p =>
    obtain ⟨x, ws1⟩ := p
    have h1 := h.2 x ws1 rfl
    simp only
    cases ht : tk wClose ws1 with
    | none => exact fine_err (by decide)
    | some ws2 => exact ⟨(fun e => by cases e), fun l ws' e => by cases e; have := tk_len ht; omega⟩
theorem leaf_fine (ws : Ws) : Fine ws (leafP ws) := by
  cases ws with
  | nil => exact fine_err (by decide)
  | cons w r =>
    simp only [leafP]
    cases leafQ w with
    | none => exact fine_err (by decide)
    | some n => exact ⟨(fun e => by cases e), fun l ws' e => by cases e; simp⟩
theorem lev_fine : ∀ (f n : Nat) (ws : Ws) (d : Nat), 9 * ws.length + (8 - n) < f → n ≤ 7 → Fine ws (lev f n ws d) := by
  intro f
  induction f with
  | zero => intro n ws d h; omega
  | succ f ih =>
    intro n ws d h hn
    match n, hn with
    | 0, _ => exact rowP_fine _ _ _ _ (fun ws' h' => ih 1 ws' d (by omega) (by omega)) (by omega)
    | 1, _ => exact rowP_fine _ _ _ _ (fun ws' h' => ih 2 ws' d (by omega) (by omega)) (by omega)
    | 2, _ =>
      show Fine ws (match tk wNot ws with
        | some ws1 => aheadP 4 (deepP (fun ws d => lev f 2 ws d) ws1 d)
        | none => lev f 3 ws d)
      cases ht : tk wNot ws with
      | some ws1 =>
        have := tk_len ht
        exact fine_le (ahead_fine _ _ _ (deep_fine _ _ _ (fun d' => ih 2 ws1 d' (by omega) (by omega)))) (by omega)
      | none => exact ih 3 ws d (by omega) (by omega)
    | 3, _ =>
      have hf := ih 4 ws d (by omega) (by omega)
      show Fine ws (match lev f 4 ws d with
        | .error c => .error c
        | .ok (x, ws1) => cmpP (fun ws => lev f 4 ws d) x ws1)
      cases hi : lev f 4 ws d with
      | error c => rw [hi] at hf; exact ⟨fun e => hf.1 (by injection e with e; rw [e]), fun l ws' e => by cases e⟩
      | ok p =>
        obtain ⟨x, ws1⟩ := p
        rw [hi] at hf
        exact cmp_fine _ x ws1 ws (hf.2 x ws1 rfl) (fun ws' h' => ih 4 ws' d (by omega) (by omega))
    | 4, _ => exact rowP_fine _ _ _ _ (fun ws' h' => ih 5 ws' d (by omega) (by omega)) (by omega)
    | 5, _ => exact rowP_fine _ _ _ _ (fun ws' h' => ih 6 ws' d (by omega) (by omega)) (by omega)
    | 6, _ =>
      show Fine ws (match tk wMinus ws with
        | some ws1 => aheadP 3 (deepP (fun ws d => lev f 6 ws d) ws1 d)
        | none => lev f 7 ws d)
      cases ht : tk wMinus ws with
      | some ws1 =>
        have := tk_len ht
        exact fine_le (ahead_fine _ _ _ (deep_fine _ _ _ (fun d' => ih 6 ws1 d' (by omega) (by omega)))) (by omega)
      | none => exact ih 7 ws d (by omega) (by omega)
    | 7, _ =>
      show Fine ws (match tk wOpen ws with
        | some ws1 => closeP (deepP (fun ws d => lev f 0 ws d) ws1 d)
        | none => leafP ws)
      cases ht : tk wOpen ws with
      | some ws1 =>
        have := tk_len ht
        exact fine_le (close_fine _ _ (deep_fine _ _ _ (fun d' => ih 0 ws1 d' (by omega) (by omega)))) (by omega)
      | none => exact leaf_fine ws
theorem expr_fine (ws : Ws) (d : Nat) (h : ws.length ≤ 100) : Fine ws (lev FU 0 ws d) := lev_fine FU 0 ws d (by unfold FU; omega) (by decide)
end Go.Proofs.YteaanpdckkmjoaaGreatDoor
/- What a question's text is: plain functions; texts as values that the expression's fold carries (a text as a number, three ahead). Conditions: none. -/
namespace Go.Proofs.YteaanpdckkmjoaaGreatDoor
set_option linter.unusedVariables false
set_option linter.unusedSimpArgs false

/-- a list of bytes, as a number -/
def enc : List UInt8 → Nat
  | [] => 0
  | b :: l => b.toNat + 1 + 257 * enc l
def decN : Nat → Nat → List UInt8
  | 0, _ => []
  | f + 1, n => if n = 0 then [] else UInt8.ofNat ((n - 1) % 257) :: decN f ((n - 1) / 257)
def dec (n : Nat) : List UInt8 := decN n n
theorem decN_enc : ∀ (l : List UInt8) (f : Nat), enc l ≤ f → decN f (enc l) = l
  | [], f, _ => by cases f <;> simp [decN, enc]
  | b :: l, f, h => by
    have hb : b.toNat < 256 := b.toNat_lt
    obtain ⟨f, rfl⟩ : ∃ g, f = g + 1 := ⟨f - 1, by simp only [enc] at h; omega⟩
    have h1 : (b.toNat + 1 + 257 * enc l - 1) % 257 = b.toNat := by omega
    have h2 : (b.toNat + 1 + 257 * enc l - 1) / 257 = enc l := by omega
    have h3 : ¬ (b.toNat + 1 + 257 * enc l = 0) := by omega
    simp only [decN, enc, if_neg h3, h1, h2]
    rw [decN_enc l f (by simp only [enc] at h; omega)]
    simp
theorem dec_enc (l : List UInt8) : dec (enc l) = l := decN_enc l _ (Nat.le_refl _)
def isFB (k n : Int) : Bool := k == 2 && n == 0
def isTB (k n : Int) : Bool := k == 2 && n == 1
def textB (k n : Int) : List UInt8 := if k = 1 then Lib.itoa n else if isFB k n then [102, 97, 108, 115, 101] else if isTB k n then [116, 114, 117, 101] else [110, 117, 108, 108]
/-- a value's text in a question -/
def cstB (k v : Int) : ByteArray := if v < 0 then ⟨#[40, 48, 32, 45, 32]⟩ ++ ⟨(Lib.itoa (-v)).toArray⟩ ++ ⟨#[41]⟩ else ⟨(textB k v).toArray⟩
def sgnB (op : Int) : ByteArray := if op = 6 then ⟨#[43]⟩ else if op = 7 then ⟨#[45]⟩ else if op = 8 then ⟨#[42]⟩ else if op = 9 then ⟨#[97, 110, 100]⟩ else if op = 10 then ⟨#[111, 114]⟩ else if op = 11 then ⟨#[60]⟩ else ⟨#[61]⟩
def txO (op : Int) (a b : ByteArray) : ByteArray :=
  if op = 3 then ⟨#[40, 45, 32]⟩ ++ a ++ ⟨#[41]⟩ else if op = 4 then ⟨#[40, 110, 111, 116, 32]⟩ ++ a ++ ⟨#[41]⟩ else if op = 5 then ⟨#[40]⟩ ++ a ++ ⟨#[32, 105, 115, 32, 110, 117, 108, 108, 41]⟩
  else ⟨#[40]⟩ ++ a ++ ⟨#[32]⟩ ++ sgnB op ++ ⟨#[32]⟩ ++ b ++ ⟨#[41]⟩
def fldB (n : Int) : ByteArray := if n = 0 then wT else if n = 1 then wK else if n = 2 then wA else wB
/-- the text that a value stands for -/
def D (p : V2) : ByteArray := if p.1 = 3 then ⟨(dec p.2.toNat).toArray⟩ else cstB p.1 p.2
def E (s : ByteArray) : V2 := (3, (enc s.data.toList : Int))
theorem D_E (s : ByteArray) : D (E s) = s := by
  unfold D E
  simp only [if_true, Int.toNat_natCast, dec_enc, Array.toArray_toList]
def oT (op : Int) (a b : V2) : V2 := E (txO op (D a) (D b))
def evT4 : List V2 := [E wT, E wK, E wA, E wB]
/-- a tree's text -/
def txE : Ex → ByteArray
  | .cst k v => cstB k v
  | .fld n => fldB n
  | .one op a => txO op (txE a) ⟨#[]⟩
  | .two op a b => txO op (txE a) (txE b)
theorem D_fld (n : Int) (h0 : 0 ≤ n) (h4 : n < 4) : D (nth evT4 n) = fldB n := by
  have : n = 0 ∨ n = 1 ∨ n = 2 ∨ n = 3 := by omega
  rcases this with rfl | rfl | rfl | rfl
  · exact D_E wT
  · exact D_E wK
  · exact D_E wA
  · exact D_E wB
theorem txO_one {op : Int} (h : ar op = 1) (a b c : ByteArray) : txO op a b = txO op a c := by
  have : op = 3 ∨ op = 4 ∨ op = 5 := by
    unfold ar at h
    split at h
    · omega
    · split at h
      · omega
      · split at h <;> omega
  rcases this with rfl | rfl | rfl <;> rfl
theorem vok_ne {k v : Int} (h : vokB k v = true) : k ≠ 3 := by
  have := of_decide_eq_true h
  omega
theorem D_ev : ∀ t : Ex, Wf t → D (evT oT evT4 t) = txE t
  | .cst k v, h => by
    have h' : vokB k v = true := h
    simp only [evT, txE]
    unfold D
    rw [if_neg (vok_ne h')]
  | .fld n, h => by
    have h' : 0 ≤ n ∧ n < 4 := h
    simp only [evT, txE]
    exact D_fld n h'.1 h'.2
  | .one op a, h => by
    obtain ⟨h1, h2⟩ : ar op = 1 ∧ Wf a := h
    simp only [evT, txE]
    show D (E (txO op (D (evT oT evT4 a)) (D (0, 0)))) = _
    rw [D_E, D_ev a h2]
    exact txO_one h1 _ _ _
  | .two op a b, h => by
    obtain ⟨h1, h2, h3⟩ : ar op = 2 ∧ Wf a ∧ Wf b := h
    simp only [evT, txE]
    show D (E (txO op (D (evT oT evT4 a)) (D (evT oT evT4 b)))) = _
    rw [D_E, D_ev a h2, D_ev b h3]
/-- an expression's text -/
def txL (l : List Nd) : ByteArray := D (evL oT evT4 l)
theorem txL_flat (t : Ex) (h : Wf t) : txL (flat t) = txE t := by
  unfold txL
  rw [ev_flat oT evT4 t h, D_ev t h]
def nmB (k : Int) : ByteArray := if k = 3 then wSum else if k = 4 then wMin else if k = 5 then wMax else wCount
def agB (a : AgQ) : ByteArray := if a.kind = 1 then ⟨#[99, 111, 117, 110, 116, 40, 42, 41]⟩ else nmB a.kind ++ ⟨#[40]⟩ ++ txL a.of ++ ⟨#[41]⟩
def decB (n : Int) : ByteArray := ⟨(Lib.itoa n).toArray⟩
def partB (word : ByteArray) (s : ByteArray) (l : List Nd) : ByteArray := if l.length = 0 then s else s ++ (word ++ txL l)
/-- a question's text -/
def qyB (q : Qy) : ByteArray :=
  partB ⟨#[32, 103, 114, 111, 117, 112, 32, 98, 121, 32]⟩ (partB ⟨#[32, 119, 104, 101, 114, 101, 32]⟩ (⟨#[115, 101, 108, 101, 99, 116, 32]⟩ ++ ⟨(Lib.join (q.aggs.map fun a => (agB a).data.toList) [44, 32]).toArray⟩ ++ ⟨#[32, 102, 114, 111, 109, 32, 101, 118, 101, 110, 116, 115]⟩) q.wh) q.bys
    ++ ⟨#[32, 119, 105, 110, 100, 111, 119, 32]⟩ ++ decB q.size ++ ⟨#[32, 115, 108, 105, 100, 101, 32]⟩ ++ decB q.slide ++ ⟨#[32, 100, 101, 108, 97, 121, 32]⟩ ++ decB q.delay ++ ⟨#[32, 108, 97, 116, 101, 32]⟩ ++ decB q.late
end Go.Proofs.YteaanpdckkmjoaaGreatDoor

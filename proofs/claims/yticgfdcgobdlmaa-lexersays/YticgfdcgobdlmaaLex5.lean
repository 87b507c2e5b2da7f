/- Contracts of penstockref.SameTexts and of the closed fact 'words', over this seat's translation. Conditions: the slices are rows of texts. -/
import Derived.Test.YticgfdcgobdlmaaLex3
import Derived.Test.YticgfdcgobdlmaaSame
namespace Go.Proofs.Yticgfdcgobdlmaa
open Go.RowKit
set_option linter.unusedVariables false
set_option linter.unusedSimpArgs false

theorem toList_inj (x y : ByteArray) (h : x.toList = y.toList) : x = y := by
  rw [Lib.toList_data, Lib.toList_data] at h
  rw [← Lib.mk_data x, ← Lib.mk_data y, h]

/-- a slice that holds these texts -/
def RowS (w : World) (v : Value) (xs : List ByteArray) : Prop :=
  (v = .slice none 0 0 ∧ xs = []) ∨ ∃ g off cap, v = .slice (some ⟨g, off, none⟩) xs.length cap ∧ xs.length ≤ cap ∧ cap ≤ maxLen ∧ g < w.heap.size ∧ ∀ i, i < xs.length → w.cell? ⟨g, off + i, none⟩ = some (.string (xs.getD i ⟨#[]⟩))

theorem texts_eq (xs ys : List ByteArray) (h : xs.length = ys.length) (hk : ∀ j, j < xs.length → xs.getD j ⟨#[]⟩ = ys.getD j ⟨#[]⟩) : xs = ys := by
  apply List.ext_getElem h
  intro i h1 h2
  have := hk i h1
  simpa [List.getD, h1, h2] using this

theorem texts_nil (w : World) (v u : Value) (xs ys : List ByteArray) (hx : RowS w v xs) (hy : RowS w u ys) (hne : xs.length ≠ ys.length) :
    Calls Try.prog 14 #[v, u] w fun e w' => e = .returned (.bool false) ∧ Below w.heap.size w w' := by
  have hb : ((xs.length : Int) != (ys.length : Int)) = true := by rw [bne_iff_ne]; omega
  rcases hx with ⟨rfl, rfl⟩ | ⟨g1, o1, c1, rfl, -, -, -, -⟩ <;> rcases hy with ⟨rfl, rfl⟩ | ⟨g2, o2, c2, rfl, -, -, -, -⟩
  · exact absurd rfl hne
  all_goals
    try simp only [List.length_nil, Int.ofNat_zero] at hb
    clear hne
    go_enter Try.func14, Try.ntmps14
    go_wp2
    go_ret
    exact ⟨rfl, Below.refl _ _⟩

theorem texts_any (w : World) (v u : Value) (xs ys : List ByteArray) (hx : RowS w v xs) (hy : RowS w u ys) (he : xs.length = ys.length) :
    Calls Try.prog 14 #[v, u] w fun e w' => e = .returned (.bool (decide (xs = ys))) ∧ Below w.heap.size w w' := by
  by_cases h0 : xs.length = 0
  · obtain rfl : xs = [] := List.eq_nil_of_length_eq_zero h0
    obtain rfl : ys = [] := List.eq_nil_of_length_eq_zero (by simpa using he.symm)
    rcases hx with ⟨rfl, -⟩ | ⟨g1, o1, c1, rfl, -, -, -, -⟩ <;> rcases hy with ⟨rfl, -⟩ | ⟨g2, o2, c2, rfl, -, -, -, -⟩
    all_goals
      clear he h0
      go_enter Try.func14, Try.ntmps14
      go_wp2_with fail
      go_loop [5] (fun i => i = .int .i64 0) (fun _ => 0)
      case atStart => rfl
      case round =>
        subst hrel
        go_wp2
        go_ret
        exact ⟨by simp, Below.refl _ _⟩
  · rcases hx with ⟨rfl, rfl⟩ | ⟨g1, o1, c1, rfl, l1, m1, z1, hx⟩
    · simp at h0
    rcases hy with ⟨rfl, rfl⟩ | ⟨g2, o2, c2, rfl, l2, m2, z2, hy⟩
    · simp at he h0; exact absurd he h0
    have kn := kin_some w
    obtain ⟨kc, kf⟩ := kin_rules w
    unfold maxLen at m1 m2
    have hb : ((xs.length : Int) != (ys.length : Int)) = false := by simp; omega
    have HE : Hid (xs.length = ys.length) := he
    have hle : ys.length ≤ xs.length := by omega
    have hle2 : xs.length ≤ ys.length := by omega
    generalize hr : decide (xs = ys) = r
    have HR : Hid (decide (xs = ys) = r) := hr
    clear he h0 hr
    have HX : Hid (∀ i, i < xs.length → w.cell? ⟨g1, o1 + i, none⟩ = some (.string (xs.getD i ⟨#[]⟩))) := hx
    have HY : Hid (∀ i, i < ys.length → w.cell? ⟨g2, o2 + i, none⟩ = some (.string (ys.getD i ⟨#[]⟩))) := hy
    clear hx hy
    go_enter Try.func14, Try.ntmps14
    go_wp2_with fail
    go_loopw [5] (fun i wr => ∃ k : Nat, k ≤ xs.length ∧ i = .int .i64 k ∧ Hid (Below w.heap.size w wr) ∧ Hid (∀ j, j < k → xs.getD j ⟨#[]⟩ = ys.getD j ⟨#[]⟩)) (fun i _ => xs.length - (intOf i).toNat)
    case atStart => exact ⟨0, Nat.zero_le _, rfl, Below.refl _ _, fun j hj => absurd hj (by omega)⟩
    case round =>
      obtain ⟨k, hk, rfl, HB, HA⟩ := hrel
      by_cases hlt : k < xs.length
      · have cx := HX.out k hlt
        have cy := HY.out k (by have := HE.out; omega)
        have hlt2 : k < ys.length := by have := HE.out; omega
        generalize hxk : xs.getD k ⟨#[]⟩ = x at cx
        generalize hyk : ys.getD k ⟨#[]⟩ = y at cy
        have HK : Hid (xs.getD k ⟨#[]⟩ = x ∧ ys.getD k ⟨#[]⟩ = y) := ⟨hxk, hyk⟩
        clear hxk hyk
        by_cases hxy : x = y
        · have hq : (x.toList == y.toList) = true := by simp [hxy]
          have HQ : Hid (x = y) := hxy
          clear hxy
          go_wp2_with fail
          refine wp_region_kin HB (by kernel_rfl) (by kernel_rfl) ?_
          repeat (go_big_quiet_step (fail))
          refine wpQuiet_nil ?_
          rintro _ ⟨p, rfl⟩
          go_wp2_with fail
          go_roundw
          case rel => exact ⟨k + 1, by omega, by go_num, p.h, fun j hj => by
            by_cases hjk : j = k
            · subst hjk; rw [HK.out.1, HK.out.2, HQ.out]
            · exact HA.out j (by omega)⟩
          case measure => simp [intOf]; omega
        · have hq : (x.toList == y.toList) = false := beq_eq_false_iff_ne.2 (fun h => hxy (toList_inj x y h))
          have HQ : Hid (¬ x = y) := hxy
          clear hxy
          go_wp2_with fail
          refine wp_region_kin HB (by kernel_rfl) (by kernel_rfl) ?_
          repeat (go_big_quiet_step (fail))
          refine wpQuiet_nil ?_
          rintro _ ⟨p, rfl⟩
          go_wp2_with fail
          go_ret
          exact ⟨ret_bool (by rw [← HR.out]; exact (decide_eq_false (fun e => HQ.out (by rw [← HK.out.1, ← HK.out.2, e]))).symm), p.h⟩
      · have hkn : k = xs.length := by omega
        go_wp2_with fail
        go_ret
        exact ⟨ret_bool (by rw [← HR.out]; exact (decide_eq_true (texts_eq xs ys HE.out (fun j hj => HA.out j (by omega)))).symm), HB.out⟩


/-- a row that is owned is a row of texts -/
theorem rowS_of_owns {w : World} {base : Nat} {v : Value} {xs : List ByteArray} (h : w.ownsRow base 9 1 v xs.length (xs.map Value.string)) : RowS w v xs := by
  obtain ⟨h0, h1⟩ := h
  rcases h1 with ⟨rfl, hn⟩ | ⟨g, cap, cur, rfl, hb, hg, hle, hm, hs, ht⟩
  · exact .inl ⟨rfl, List.eq_nil_of_length_eq_zero hn⟩
  · have hsz : g < w.heap.size := (Array.getElem?_eq_some_iff.1 hg).1
    refine .inr ⟨g, 0, cap, rfl, hle, hm, hsz, fun i hi => ?_⟩
    have hc := World.ownsRow.cellAt (w := w) (base := base) (e := 9) (size := 1) (g := g) (n := xs.length) (cap := cap) ⟨h0, .inr ⟨g, cap, cur, rfl, hb, hg, hle, hm, hs, ht⟩⟩ i (by omega)
    rw [Nat.zero_add, hc]
    simp [hi]

theorem rowS_below {w w' : World} {v : Value} {xs : List ByteArray} (h : RowS w v xs) (hb : Below w.heap.size w w') : RowS w' v xs := by
  rcases h with h | ⟨g, off, cap, h1, h2, h3, h4, h5⟩
  · exact .inl h
  · exact .inr ⟨g, off, cap, h1, h2, h3, Nat.lt_of_lt_of_le h4 hb.size, fun i hi => by rw [hb.cell (p := ⟨g, off + i, none⟩) h4]; exact h5 i hi⟩

theorem texts_all (w : World) (v u : Value) (xs ys : List ByteArray) (hx : RowS w v xs) (hy : RowS w u ys) :
    Calls Try.prog 14 #[v, u] w fun e w' => e = .returned (.bool (decide (xs = ys))) ∧ Below w.heap.size w w' := by
  by_cases h : xs.length = ys.length
  · exact texts_any w v u xs ys hx hy h
  · rw [decide_eq_false (fun e => h (by rw [e]))]
    exact texts_nil w v u xs ys hx hy h

theorem texts_same (w : World) (v u : Value) (xs : List ByteArray) (hx : RowS w v xs) (hy : RowS w u xs) :
    Calls Try.prog 14 #[v, u] w fun e w' => e = .returned (.bool true) ∧ Below w.heap.size w w' := by
  have h := texts_all w v u xs xs hx hy
  rwa [decide_eq_true rfl] at h

/-- an error, told by its number -/
theorem same_errV (c f : Int) (w : World) (hc : 0 ≤ c) : Calls Try.prog 13 #[errV c, .int .i64 f] w fun e w' => e = .returned (.bool (c == f)) ∧ w' = w := by
  unfold errV
  by_cases h : c = 0
  · subst h
    rw [if_pos rfl]
    have e : ((0 : Int) == f) = (f == 0) := by rw [Bool.eq_iff_iff]; simp only [beq_iff_eq]; omega
    rw [e]
    exact same_nil f w
  · rw [if_neg h]
    exact same_err c f w (by omega)

theorem lexT_pos (s : ByteArray) : 0 ≤ (lexT s).1 := by
  unfold lexT
  split
  · generalize s.size = f
    have : ∀ (f a : Nat) (ws : List ByteArray), 0 ≤ (lexF s f a ws).1 := by
      intro f
      induction f with
      | zero => intro a ws; exact Int.le_refl _
      | succ f ih =>
        intro a ws
        unfold lexF
        repeat' split
        all_goals first | exact ih _ _ | decide | exact Int.le_refl _
    exact this _ _ _
  · decide

theorem lex_closed : lexT ⟨#[97, 60, 61, 49, 50, 32, 98]⟩ = (0, [⟨#[97]⟩, ⟨#[60, 61]⟩, ⟨#[49, 50]⟩, ⟨#[98]⟩]) := by decide +kernel

theorem words_4 (w : World) : Calls Try.prog 11 #[.string ⟨#[97, 60, 61, 49, 50, 32, 98]⟩] w fun e w' => ∃ v, e = .returned (.tuple #[v, .nilIface]) ∧ RowS w' v [⟨#[97]⟩, ⟨#[60, 61]⟩, ⟨#[49, 50]⟩, ⟨#[98]⟩] ∧ Below w.heap.size w w' := by
  have h := words_any ⟨#[97, 60, 61, 49, 50, 32, 98]⟩ w
  rw [lex_closed] at h
  exact h.mono fun e w' ⟨v, h1, h2, h3⟩ => ⟨v, h1, rowS_of_owns (base := w.heap.size) h2, h3⟩

theorem lit_row (w : World) (l : List ByteArray) (hm : l.length ≤ maxLen) : RowS (w.alloc (.cells (l.map Value.string).toArray 9)) (.slice (some ⟨w.heap.size, 0, none⟩) l.length l.length) l := by
  have h := World.ownsRow_lit (base := 0) (size := 1) (e := 9) w (l.map Value.string).toArray l.length (Nat.zero_le _) hm (by simp)
  exact rowS_of_owns (base := 0) (by simpa using h)

theorem words_closed (w : World) : Calls Try.prog 10 #[] w fun e w' => e = .returned (.bool true) ∧ Below w.heap.size w w' := by
  go_enter Try.func10, Try.ntmps10
  go_wp2_with fail
  refine (words_4 _).mono ?_
  rintro e w1 ⟨v, rfl, hr, hb⟩
  have R1 := hid2 (rowS_below hr ((Below.refl w1.heap.size w1).alloc (Nat.le_refl _) (.cells #[.string ⟨#[97]⟩, .string ⟨#[60, 61]⟩, .string ⟨#[49, 50]⟩, .string ⟨#[98]⟩] 9)))
  have R2 : Hid (RowS (w1.alloc (.cells #[.string ⟨#[97]⟩, .string ⟨#[60, 61]⟩, .string ⟨#[49, 50]⟩, .string ⟨#[98]⟩] 9)) (.slice (some ⟨w1.heap.size, 0, none⟩) 4 4) [⟨#[97]⟩, ⟨#[60, 61]⟩, ⟨#[49, 50]⟩, ⟨#[98]⟩]) := lit_row w1 [⟨#[97]⟩, ⟨#[60, 61]⟩, ⟨#[49, 50]⟩, ⟨#[98]⟩] (by decide)
  have HB := hid2 (hb.alloc hb.size (.cells #[.string ⟨#[97]⟩, .string ⟨#[60, 61]⟩, .string ⟨#[49, 50]⟩, .string ⟨#[98]⟩] 9))
  clear hr hb
  go_wp2_with (first | (go_at_call 13; refine (same_nil _ _).mono ?_; rintro e w' ⟨rfl, rfl⟩) | (go_at_call 14; refine (texts_same _ _ _ _ R1.out R2.out).mono ?_; rintro e w2 ⟨rfl, hb⟩; have HC := hid2 hb; clear hb))
  go_ret
  exact ⟨rfl, HB.out.trans (HC.out.mono HB.out.size)⟩
end Go.Proofs.Yticgfdcgobdlmaa

/- The law TopValue, proved for every value: it returns true and changes nothing that was there. Conditions: the library's tables and errors lie as the program's text lays them. -/
import Derived.Test.YticgfdcgobdlmaaDoorParseV
namespace Go.Proofs.YticgfdcgobdlmaaDoor
open Go.RowKit
set_option linter.unusedVariables false
set_option linter.unusedSimpArgs false
attribute [local go_sem ↓] eql_value neq_value

theorem itoa_5 : Lib.itoa (-5) = [45, 53] := by decide +kernel

/-- a value's text, and what is read of it: what the law asks of each -/
def Reads (k n : Int) (s : ByteArray) : Prop :=
  (∀ w, Tabs w → Calls Tryd.prog 27 #[.agg #[.int .i64 k, .int .i64 n]] w fun e w' => e = .returned (.string s) ∧ Below w.heap.size w w') ∧
  (∀ w, Tabs w → Calls Tryd.prog 17 #[.string s] w fun e w' => e = .returned (.tuple #[.agg #[.int .i64 k, .int .i64 n], .nilIface]) ∧ Below w.heap.size w w')

theorem digs_len (u : Nat) (h : u ≤ 1000000000) : (Lib.decDigits u).length ≤ 10 := by
  rw [Lib.decDigits_length]
  by_cases h0 : u < 1
  · rw [Lib.nDigits_small (by omega)]; omega
  · have hp := Lib.lt_pow_nDigits (u / 10)
    rcases Nat.lt_or_ge (Lib.nDigits u) 11 with h1 | h1
    · omega
    · exfalso
      have key : ∀ k v, Lib.nDigits v = k + 1 → 10 ^ k ≤ v ∨ k = 0 := by
        intro k
        induction k with
        | zero => intro v _; exact .inr rfl
        | succ k ih =>
          intro v hv
          by_cases hs : v < 10
          · rw [Lib.nDigits_small hs] at hv; omega
          · rw [Lib.nDigits_big hs] at hv
            rcases ih (v / 10) (by omega) with h | h
            · left; rw [Nat.pow_succ]; omega
            · subst h; left; omega
      obtain ⟨k, hk⟩ : ∃ k, Lib.nDigits u = k + 1 := ⟨Lib.nDigits u - 1, by omega⟩
      rcases key k u hk with h2 | h2
      · have h3 : 10 ^ 10 ≤ 10 ^ k := Nat.pow_le_pow_right (by omega) (by omega)
        omega
      · omega

theorem itoa_size (n : Int) (h0 : -1000000000 ≤ n) (h1 : n ≤ 1000000000) : (Lib.itoa n).length ≤ 11 := by
  unfold Lib.itoa
  split
  · have := digs_len n.natAbs (by omega)
    simp only [List.length_cons]
    omega
  · have := digs_len n.toNat (by omega)
    omega

theorem reads_of (k n : Int) (h : vok k n = true) : ∃ s, Reads k n s := by
  rcases of_decide_eq_true h with ⟨rfl, rfl⟩ | ⟨rfl, h1, h2⟩ | ⟨rfl, rfl | rfl⟩
  · exact ⟨⟨#[110, 117, 108, 108]⟩, fun w _ => text_N w, fun w _ => parse_N _ w (by decide +kernel)⟩
  · obtain ⟨c, r, hc, hd⟩ := itoa_head n (by omega) (by omega)
    have hl : (⟨(Lib.itoa n).toArray⟩ : ByteArray).data.toList = Lib.itoa n := by simp
    have hne : ∀ (x : UInt8) (l : List UInt8), 58 ≤ x.toNat → ((⟨(Lib.itoa n).toArray⟩ : ByteArray).toList == x :: l) = false := by
      intro x l hx
      rw [Lib.toList_data, hl, hc]
      apply beq_eq_false_iff_ne.2
      intro e
      injection e with e1 e2
      subst e1
      omega
    have hsz : (⟨(Lib.itoa n).toArray⟩ : ByteArray).size ≤ 281474976710656 := by
      rw [Lib.size_eq, hl]
      have := itoa_size n h1 h2
      omega
    exact ⟨⟨(Lib.itoa n).toArray⟩, fun w ht => text_is _ n w h1 h2 hl ht, fun w ht => parse_num _ w ht (hne _ _ (by decide)) (hne _ _ (by decide)) (hne _ _ (by decide)) hsz n (by rw [hl]; exact atoi_itoa n (by omega) (by omega)) h1 h2 hl⟩
  · exact ⟨⟨#[102, 97, 108, 115, 101]⟩, fun w _ => text_F w, fun w _ => parse_F _ w (by decide +kernel) (by decide +kernel)⟩
  · exact ⟨⟨#[116, 114, 117, 101]⟩, fun w _ => text_T w, fun w _ => parse_T _ w (by decide +kernel) (by decide +kernel) (by decide +kernel)⟩

theorem text_5 (w : World) (ht : Tabs w) : Calls Tryd.prog 27 #[.agg #[.int .i64 1, .int .i64 (-5)]] w fun e w' => e = .returned (.string ⟨#[45, 53]⟩) ∧ Below w.heap.size w w' :=
  text_is _ (-5) w (by decide) (by decide) (by rw [itoa_5]) ht

theorem number_5 (w : World) : Calls Tryd.prog 11 #[.int .i64 (-5)] w fun e w' => e = .returned (.agg #[.int .i64 1, .int .i64 (-5)]) ∧ Below w.heap.size w w' := number_any (-5) w

theorem cell_old (W : World) (o : Obj) (b off : Nat) (h : b < W.heap.size) : (W.alloc o).cell? ⟨b, off, none⟩ = W.cell? ⟨b, off, none⟩ :=
  ((Below.refl W.heap.size W).alloc (Nat.le_refl _) o).cell (p := ⟨b, off, none⟩) h

theorem topValue_walk (k n : Int) (w : World) (ht : Tabs w) : Calls Tryd.prog 5 #[.agg #[.int .i64 k, .int .i64 n]] w fun e w' => e = .returned (.bool true) ∧ Below w.heap.size w w' := by
  have HB : Hid (Below (w.alloc (.cells #[.int .i64 k, .int .i64 n] 32)).heap.size (w.alloc (.cells #[.int .i64 k, .int .i64 n] 32)) (w.alloc (.cells #[.int .i64 k, .int .i64 n] 32))) := Below.refl _ _
  have HT := hidT (ht.below ((Below.refl w.heap.size w).alloc (Nat.le_refl _) (.cells #[.int .i64 k, .int .i64 n] 32)))
  clear ht
  cases hv : vok k n
  · have HV := hidT hv
    clear hv
    go_enter Tryd.func5, Tryd.ntmps5
    go_wp2_with (first
      | (go_at_call 11; refine (number_5 _).mono ?_; rintro e w1 ⟨rfl, hb⟩; have HT := hidT (HT.out.below hb); have HB := nxt HB hb; obtain ⟨hc, hf⟩ := rules HB; clear hb)
      | (go_at_call 27; refine (text_5 _ HT.out).mono ?_; rintro e w1 ⟨rfl, hb⟩; have HT := hidT (HT.out.below hb); have HB := nxt HB hb; obtain ⟨hc, hf⟩ := rules HB; clear hb)
      | (go_at_call 15; refine (check_no _ _ _ HV.out).mono ?_; rintro e w1 ⟨rfl, hb⟩; have HB := nxt HB hb; obtain ⟨hc, hf⟩ := rules HB; clear hb))
    go_ret
    exact ⟨rfl, done ((Below.refl _ _).alloc (Nat.le_refl _) _) HB⟩
  · have HV := hidT hv
    obtain ⟨s, hr⟩ := reads_of k n hv
    have HR := hidT hr
    clear hv hr
    have kk : (k == k && n == n) = true := by simp
    go_enter Tryd.func5, Tryd.ntmps5
    go_wp2_with fail
    refine (number_5 _).mono ?_
    rintro e w1 ⟨rfl, hb⟩
    have HT := hidT (HT.out.below hb)
    have HB := nxt HB hb
    obtain ⟨hc, hf⟩ := rules HB
    clear hb
    go_wp2_with fail
    refine (text_5 _ HT.out).mono ?_
    rintro e w1 ⟨rfl, hb⟩
    have HT := hidT (HT.out.below hb)
    have HB := nxt HB hb
    obtain ⟨hc, hf⟩ := rules HB
    clear hb
    go_wp2_with fail
    refine (check_yes _ _ _ HV.out).mono ?_
    rintro e w1 ⟨rfl, hb⟩
    have HT := hidT (HT.out.below hb)
    have HB := nxt HB hb
    obtain ⟨hc, hf⟩ := rules HB
    clear hb
    go_wp2_with fail
    refine (HR.out.1 _ HT.out).mono ?_
    rintro e w1 ⟨rfl, hb⟩
    have HT := hidT (HT.out.below hb)
    have HB := nxt HB hb
    obtain ⟨hc, hf⟩ := rules HB
    clear hb
    go_wp2_with fail
    refine (HR.out.2 _ HT.out).mono ?_
    rintro e w1 ⟨rfl, hb⟩
    have HT := hidT (HT.out.below hb)
    have HB := nxt HB hb
    obtain ⟨hc, hf⟩ := rules HB
    clear hb
    have hz : w.heap.size < w1.heap.size := by have := HB.out.size; simp only [World.size_alloc] at this; omega
    have al := cell_old w1
    go_wp2_with fail
    go_ret
    exact ⟨rfl, done ((Below.refl _ _).alloc (Nat.le_refl _) _) (nxta HB _)⟩
end Go.Proofs.YticgfdcgobdlmaaDoor

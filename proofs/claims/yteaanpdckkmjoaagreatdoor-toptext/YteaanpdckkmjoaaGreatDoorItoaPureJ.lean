/- Several texts in one, each with its own head. What is proved: what the parts say. Conditions: theirs. -/
import Derived.Lib.ItoaNum
import Derived.Lib.AtoiAll
import Derived.Test.YteaanpdckkmjoaaGreatDoorShelf
import Derived.Test.YteaanpdckkmjoaaGreatDoorValsJ
import Derived.WalkSmall
import Derived.Lib.AtoiErrMem
/- A number's decimal text is read as it: plain Lean on the library's own functions for strconv.Itoa and strconv.Atoi. Conditions: the number is below 10^18. -/
namespace Go.Proofs.YteaanpdckkmjoaaGreatDoor
open Go.Lib

theorem parse_snoc : ∀ (l : List UInt8) (acc a : Nat) (c : UInt8), parseUint10 acc l = .ok a → 48 ≤ c.toNat → c.toNat ≤ 57 → a < 1844674407370955161 → parseUint10 acc (l ++ [c]) = .ok (a * 10 + (c.toNat - 48))
  | [], acc, a, c, h, h1, h2, h3 => by
    simp only [parseUint10] at h
    injection h with h
    subst h
    simp only [List.nil_append, parseUint10]
    rw [if_pos ⟨h1, h2⟩, if_neg (by omega), if_neg (by omega)]
  | x :: l, acc, a, c, h, h1, h2, h3 => by
    simp only [parseUint10] at h
    simp only [List.cons_append, parseUint10]
    by_cases g1 : 48 ≤ x.toNat ∧ x.toNat ≤ 57
    · rw [if_pos g1] at h ⊢
      by_cases g2 : 1844674407370955162 ≤ acc
      · rw [if_pos g2] at h; cases h
      · rw [if_neg g2] at h ⊢
        by_cases g3 : 18446744073709551616 ≤ acc * 10 + (x.toNat - 48)
        · rw [if_pos g3] at h; cases h
        · rw [if_neg g3] at h ⊢
          exact parse_snoc l _ a c h h1 h2 h3
    · rw [if_neg g1] at h; cases h

theorem dig_val (d : Nat) (h : d < 10) : (UInt8.ofNat (48 + d)).toNat = 48 + d := by
  have : d = 0 ∨ d = 1 ∨ d = 2 ∨ d = 3 ∨ d = 4 ∨ d = 5 ∨ d = 6 ∨ d = 7 ∨ d = 8 ∨ d = 9 := by omega
  rcases this with rfl | rfl | rfl | rfl | rfl | rfl | rfl | rfl | rfl | rfl <;> rfl

theorem parse_digits (u : Nat) (hu : u < 1000000000000000000) : parseUint10 0 (decDigits u) = .ok u ∧ decDigits u ≠ [] ∧ ∀ c ∈ decDigits u, 48 ≤ c.toNat ∧ c.toNat ≤ 57 := by
  induction u using Nat.strongRecOn with
  | ind u ih =>
    by_cases h : u < 10
    · rw [decDigits, dif_pos h]
      have hv := dig_val u h
      refine ⟨?_, by simp, ?_⟩
      · simp only [parseUint10]
        rw [if_pos (by omega), if_neg (by omega), if_neg (by omega), hv]
        simp
      · intro c hc
        rw [List.mem_singleton] at hc
        subst hc
        omega
    · rw [decDigits, dif_neg h]
      obtain ⟨h1, h2, h3⟩ := ih (u / 10) (by omega) (by omega)
      have hv := dig_val (u % 10) (by omega)
      refine ⟨?_, by simp, ?_⟩
      · rw [parse_snoc _ 0 (u / 10) _ h1 (by omega) (by omega) (by omega), hv]
        congr 1
        omega
      · intro c hc
        rcases List.mem_append.1 hc with hc | hc
        · exact h3 c hc
        · rw [List.mem_singleton] at hc
          subst hc
          omega

theorem atoi_itoa (n : Int) (h1 : -1000000000000000000 < n) (h2 : n < 1000000000000000000) : atoiAll (itoa n) = .ok n := by
  unfold itoa
  by_cases hn : n < 0
  · rw [if_pos hn]
    obtain ⟨p1, p2, p3⟩ := parse_digits n.natAbs (by omega)
    unfold atoiAll
    have hm : parseMag (decDigits n.natAbs) = .ok n.natAbs := by unfold parseMag; rw [if_neg p2]; exact p1
    have e : (if (45 : UInt8).toNat = 43 ∨ (45 : UInt8).toNat = 45 then decDigits n.natAbs else (45 : UInt8) :: decDigits n.natAbs) = decDigits n.natAbs := if_pos (.inr rfl)
    simp only [e, hm]
    rw [if_neg (by simp), if_neg (by omega), if_pos (show (45 : UInt8).toNat = 45 from rfl)]
    congr 1
    omega
  · rw [if_neg hn]
    obtain ⟨p1, p2, p3⟩ := parse_digits n.toNat (by omega)
    have hm : parseMag (decDigits n.toNat) = .ok n.toNat := by unfold parseMag; rw [if_neg p2]; exact p1
    generalize decDigits n.toNat = l at *
    match l with
    | [] => exact absurd rfl p2
    | c :: r =>
      have hc := p3 c (List.mem_cons_self ..)
      unfold atoiAll
      have e : (if c.toNat = 43 ∨ c.toNat = 45 then r else c :: r) = c :: r := if_neg (by omega)
      simp only [e, hm]
      rw [if_neg (by omega), if_neg (by omega), if_neg (by omega)]
      congr 1
      omega

theorem itoa_head (n : Int) (h1 : -1000000000000000000 < n) (h2 : n < 1000000000000000000) : ∃ c r, itoa n = c :: r ∧ (c.toNat = 45 ∨ 48 ≤ c.toNat ∧ c.toNat ≤ 57) := by
  unfold itoa
  by_cases hn : n < 0
  · rw [if_pos hn]; exact ⟨45, _, rfl, .inl rfl⟩
  · rw [if_neg hn]
    obtain ⟨p1, p2, p3⟩ := parse_digits n.toNat (by omega)
    match h : decDigits n.toNat with
    | [] => exact absurd h p2
    | c :: r => exact ⟨c, r, rfl, .inr (p3 c (by rw [h]; exact List.mem_cons_self ..))⟩
end Go.Proofs.YteaanpdckkmjoaaGreatDoor
/- Contracts of value.Text and value.Parse at a value's text, over this seat's translation. Conditions: the library's table of powers of ten lies as the program's text lays it; a number is below 10^18. -/
namespace Go.Proofs.YteaanpdckkmjoaaGreatDoor
open Go.RowKit
set_option linter.unusedVariables false
set_option linter.unusedSimpArgs false
attribute [local go_sem ↓] eql_value neq_value

theorem synG : Tryz.prog.globalNamed "strconv.ErrSyntax" = some 5 := by kernel_rfl
theorem rngG : Tryz.prog.globalNamed "strconv.ErrRange" = some 6 := by kernel_rfl
theorem powG : Tryz.prog.globalNamed "internal/strconv.uint64pow10" = some 2 := by kernel_rfl

/-- the table lies -/
structure Tabs (w : World) : Prop where
  pow : Lib.TabIs Tryz.prog w "internal/strconv.uint64pow10" .u64 Lib.pow10Tab
  sz : 7 ≤ w.heap.size
  syn : ∃ tp p, w.var? Tryz.prog "strconv.ErrSyntax" = some #[.iface tp p]
  rng : ∃ tp p, w.var? Tryz.prog "strconv.ErrRange" = some #[.iface tp p]

theorem Tabs.below {w w' : World} (h : Tabs w) (hb : Below w.heap.size w w') : Tabs w' :=
  ⟨var?_below hb powG (by have := h.sz; omega) h.pow, Nat.le_trans h.sz hb.size, by
    obtain ⟨tp, p, hv⟩ := h.syn
    exact ⟨tp, p, var?_below hb synG (by have := h.sz; omega) hv⟩, by
    obtain ⟨tp, p, hv⟩ := h.rng
    exact ⟨tp, p, var?_below hb rngG (by have := h.sz; omega) hv⟩⟩

theorem below_grow (w : World) (q : Nat) (os : Array Obj) : Below w.heap.size w (Sort.grow (w.drewN q) os) :=
  ⟨rfl, rfl, rfl, by simp [Sort.grow], fun i hi => by
    show ((w.drewN q).heap ++ os)[i]? = _
    rw [Array.getElem?_append_left (by exact hi)]
    rfl⟩

theorem itoa_any (n : Int) (w : World) (h0 : -9223372036854775808 ≤ n) (h1 : n ≤ 9223372036854775807) (ht : Tabs w) :
    Calls Tryz.prog 26 #[.int .i64 n] w fun e w' => e = .returned (.string ⟨(Lib.itoa n).toArray⟩) ∧ Below w.heap.size w w' :=
  (Any.strconv_Itoa Tryz.laysM171 n h0 h1 w ht.pow).mono fun e w' ⟨he, k, os, hw⟩ => ⟨he, by rw [hw]; exact below_grow w k os⟩

theorem bytes_below (w : World) (t : TypeId) (s : ByteArray) : Below w.heap.size w (Lib.bytesWorld w t s) := by
  exact Lib.bytesWorld_below w t s

theorem atoi_any (s : ByteArray) (n : Int) (w : World) (hs : s.size ≤ 9223372036854775806) (h : Lib.atoiAll s.data.toList = .ok n) :
    Calls Tryz.prog 101 #[.string s] w fun e w' => e = .returned (.tuple #[.int .i64 n, .nilIface]) ∧ Below w.heap.size w w' :=
  (Any.strconv_Atoi_ok Tryz.laysC172 s hs n h w).mono fun e w' ⟨he, hw⟩ => ⟨he, by
    rcases hw with rfl | ⟨t, rfl⟩
    · exact Below.refl _ _
    · exact bytes_below _ _ _⟩

/-- Atoi of what is no number: an error -/
theorem atoi_no (s : ByteArray) (w : World) (hs : s.size ≤ 281474976710656) (h : ∀ n, Lib.atoiAll s.data.toList ≠ .ok n) (ht : Tabs w) :
    Calls Tryz.prog 101 #[.string s] w fun e w' => ∃ n t p, e = .returned (.tuple #[.int .i64 n, .iface t p]) ∧ Below w.heap.size w w' := by
  rcases hq : Lib.atoiAll s.data.toList with v | _ | _
  · exact absurd hq (h v)
  · obtain ⟨tp, p, hv⟩ := ht.syn
    exact (Any.strconv_Atoi_syntax_var Tryz.laysC172 s hs hq tp p w hv).mono fun e w' ⟨N, h1, h2, h3, h4⟩ => ⟨_, _, _, h1, h4⟩
  · obtain ⟨tp, p, hv⟩ := ht.rng
    exact (Any.strconv_Atoi_range_var Tryz.laysC172 s hs hq tp p w hv).mono fun e w' ⟨N, h1, h2, h3, h4⟩ => ⟨_, _, _, h1, h4⟩

/-- a value's text -/
def textL (k n : Int) : List UInt8 := if k = 1 then Lib.itoa n else if isF k n then [102, 97, 108, 115, 101] else if isT k n then [116, 114, 117, 101] else [110, 117, 108, 108]

theorem text_num (n : Int) (w : World) (h0 : -9223372036854775808 ≤ n) (h1 : n ≤ 9223372036854775807) (ht : Tabs w) :
    Calls Tryz.prog 91 #[.agg #[.int .i64 1, .int .i64 n]] w fun e w' => e = .returned (.string ⟨(Lib.itoa n).toArray⟩) ∧ Below w.heap.size w w' := by
  have HT := ht.below ((Below.refl w.heap.size w).alloc (Nat.le_refl _) (.cells #[.int .i64 1, .int .i64 n] 89))
  have HT : Hid _ := HT
  clear ht
  go_enter Tryz.func91, Tryz.ntmps91
  go_wp2_with (go_at_call 26; refine (itoa_any _ _ h0 h1 HT.out).mono ?_; rintro e w1 ⟨rfl, hb⟩; have HB : Hid _ := hb; clear hb)
  go_ret
  exact ⟨rfl, ((Below.refl _ _).alloc (Nat.le_refl _) _).trans (HB.out.mono (by simp))⟩

theorem text_F (w : World) : Calls Tryz.prog 91 #[.agg #[.int .i64 2, .int .i64 0]] w fun e w' => e = .returned (.string ⟨#[102, 97, 108, 115, 101]⟩) ∧ Below w.heap.size w w' := by
  have HB : Hid (Below (w.alloc (.cells #[.int .i64 2, .int .i64 0] 89)).heap.size (w.alloc (.cells #[.int .i64 2, .int .i64 0] 89)) (w.alloc (.cells #[.int .i64 2, .int .i64 0] 89))) := Below.refl _ _
  have kn := kin_some (w.alloc (.cells #[.int .i64 2, .int .i64 0] 89))
  obtain ⟨kc, kf⟩ := kin_rules (w.alloc (.cells #[.int .i64 2, .int .i64 0] 89))
  go_enter Tryz.func91, Tryz.ntmps91
  go_wp2_with fail
  refine wp_region_kin HB (by kernel_rfl) (by kernel_rfl) ?_
  repeat (go_big_quiet_step ((go_at_call 108; exact kin_of (truth_bel _ _))))
  refine wpQuiet_nil ?_
  rintro _ ⟨p, rfl⟩
  have HB : Hid _ := p.h
  go_wp2_with fail
  go_ret
  exact ⟨rfl, done ((Below.refl _ _).alloc (Nat.le_refl _) _) HB⟩

theorem text_T (w : World) : Calls Tryz.prog 91 #[.agg #[.int .i64 2, .int .i64 1]] w fun e w' => e = .returned (.string ⟨#[116, 114, 117, 101]⟩) ∧ Below w.heap.size w w' := by
  have HB : Hid (Below (w.alloc (.cells #[.int .i64 2, .int .i64 1] 89)).heap.size (w.alloc (.cells #[.int .i64 2, .int .i64 1] 89)) (w.alloc (.cells #[.int .i64 2, .int .i64 1] 89))) := Below.refl _ _
  have kn := kin_some (w.alloc (.cells #[.int .i64 2, .int .i64 1] 89))
  obtain ⟨kc, kf⟩ := kin_rules (w.alloc (.cells #[.int .i64 2, .int .i64 1] 89))
  go_enter Tryz.func91, Tryz.ntmps91
  go_wp2_with fail
  refine wp_region_kin HB (by kernel_rfl) (by kernel_rfl) ?_
  repeat (go_big_quiet_step ((go_at_call 108; exact kin_of (truth_bel _ _))))
  refine wpQuiet_nil ?_
  rintro _ ⟨p, rfl⟩
  have HB : Hid _ := p.h
  go_wp2_with fail
  refine wp_region_kin HB (by kernel_rfl) (by kernel_rfl) ?_
  repeat (go_big_quiet_step ((go_at_call 108; exact kin_of (truth_bel _ _))))
  refine wpQuiet_nil ?_
  rintro _ ⟨q, rfl⟩
  have HB : Hid _ := q.h
  go_wp2_with fail
  go_ret
  exact ⟨rfl, done ((Below.refl _ _).alloc (Nat.le_refl _) _) HB⟩

theorem text_N (w : World) : Calls Tryz.prog 91 #[.agg #[.int .i64 0, .int .i64 0]] w fun e w' => e = .returned (.string ⟨#[110, 117, 108, 108]⟩) ∧ Below w.heap.size w w' := by
  have HB : Hid (Below (w.alloc (.cells #[.int .i64 0, .int .i64 0] 89)).heap.size (w.alloc (.cells #[.int .i64 0, .int .i64 0] 89)) (w.alloc (.cells #[.int .i64 0, .int .i64 0] 89))) := Below.refl _ _
  have kn := kin_some (w.alloc (.cells #[.int .i64 0, .int .i64 0] 89))
  obtain ⟨kc, kf⟩ := kin_rules (w.alloc (.cells #[.int .i64 0, .int .i64 0] 89))
  go_enter Tryz.func91, Tryz.ntmps91
  go_wp2_with fail
  refine wp_region_kin HB (by kernel_rfl) (by kernel_rfl) ?_
  repeat (go_big_quiet_step ((go_at_call 108; exact kin_of (truth_bel _ _))))
  refine wpQuiet_nil ?_
  rintro _ ⟨p, rfl⟩
  have HB : Hid _ := p.h
  go_wp2_with fail
  refine wp_region_kin HB (by kernel_rfl) (by kernel_rfl) ?_
  repeat (go_big_quiet_step ((go_at_call 108; exact kin_of (truth_bel _ _))))
  refine wpQuiet_nil ?_
  rintro _ ⟨q, rfl⟩
  have HB : Hid _ := q.h
  go_wp2_with fail
  go_ret
  exact ⟨rfl, done ((Below.refl _ _).alloc (Nat.le_refl _) _) HB⟩
end Go.Proofs.YteaanpdckkmjoaaGreatDoor

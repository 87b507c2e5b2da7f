/- Contracts of value.Text and value.Parse at a value's text, over this seat's translation. Conditions: the library's table of powers of ten lies as the program's text lays it; a number is below 10^18. -/
import Derived.Test.YticgfdcgobdlmaaDoorShelf
import Derived.Test.YticgfdcgobdlmaaDoorItoaPure
import Derived.Test.YticgfdcgobdlmaaDoorVals3
import Derived.WalkSmall
import Derived.Lib.AtoiErrMem
namespace Go.Proofs.YticgfdcgobdlmaaDoor
open Go.RowKit
set_option linter.unusedVariables false
set_option linter.unusedSimpArgs false
attribute [local go_sem ↓] eql_value neq_value

theorem synG : Tryd.prog.globalNamed "strconv.ErrSyntax" = some 0 := by kernel_rfl
theorem rngG : Tryd.prog.globalNamed "strconv.ErrRange" = some 1 := by kernel_rfl
theorem powG : Tryd.prog.globalNamed "internal/strconv.uint64pow10" = some 2 := by kernel_rfl

/-- the table lies -/
structure Tabs (w : World) : Prop where
  pow : Lib.TabIs Tryd.prog w "internal/strconv.uint64pow10" .u64 Lib.pow10Tab
  sz : 5 ≤ w.heap.size
  syn : ∃ tp p, w.var? Tryd.prog "strconv.ErrSyntax" = some #[.iface tp p]
  rng : ∃ tp p, w.var? Tryd.prog "strconv.ErrRange" = some #[.iface tp p]

theorem Tabs.below {w w' : World} (h : Tabs w) (hb : Below w.heap.size w w') : Tabs w' :=
  ⟨var?_below hb powG (by have := h.sz; omega) h.pow, Nat.le_trans h.sz hb.size, by
    obtain ⟨tp, p, hv⟩ := h.syn
    exact ⟨tp, p, var?_below hb synG (by have := h.sz; omega) hv⟩, by
    obtain ⟨tp, p, hv⟩ := h.rng
    exact ⟨tp, p, var?_below hb rngG (by have := h.sz; omega) hv⟩⟩

theorem below_grow (w : World) (q : Nat) (os : Array Obj) : Below w.heap.size w (Sort.grow (w.drewN q) os) :=
  ⟨rfl, rfl, rfl, by simp [Sort.grow], fun i hi => by
    show ((w.drewN q).heap ++ os)[i]? = _
    rw [Array.getElem?_append_left (by exact hi)]
    rfl⟩

theorem itoa_any (n : Int) (w : World) (h0 : -9223372036854775808 ≤ n) (h1 : n ≤ 9223372036854775807) (ht : Tabs w) :
    Calls Tryd.prog 29 #[.int .i64 n] w fun e w' => e = .returned (.string ⟨(Lib.itoa n).toArray⟩) ∧ Below w.heap.size w w' :=
  (Any.strconv_Itoa Tryd.laysM171 n h0 h1 w ht.pow).mono fun e w' ⟨he, k, os, hw⟩ => ⟨he, by rw [hw]; exact below_grow w k os⟩

theorem bytes_below (w : World) (t : TypeId) (s : ByteArray) : Below w.heap.size w (Lib.bytesWorld w t s) := by
  exact Lib.bytesWorld_below w t s

theorem atoi_any (s : ByteArray) (n : Int) (w : World) (hs : s.size ≤ 9223372036854775806) (h : Lib.atoiAll s.data.toList = .ok n) :
    Calls Tryd.prog 30 #[.string s] w fun e w' => e = .returned (.tuple #[.int .i64 n, .nilIface]) ∧ Below w.heap.size w w' :=
  (Any.strconv_Atoi_ok Tryd.laysC172 s hs n h w).mono fun e w' ⟨he, hw⟩ => ⟨he, by
    rcases hw with rfl | ⟨t, rfl⟩
    · exact Below.refl _ _
    · exact bytes_below _ _ _⟩

/-- Atoi of what is no number: an error -/
theorem atoi_no (s : ByteArray) (w : World) (hs : s.size ≤ 281474976710656) (h : ∀ n, Lib.atoiAll s.data.toList ≠ .ok n) (ht : Tabs w) :
    Calls Tryd.prog 30 #[.string s] w fun e w' => ∃ n t p, e = .returned (.tuple #[.int .i64 n, .iface t p]) ∧ Below w.heap.size w w' := by
  rcases hq : Lib.atoiAll s.data.toList with v | _ | _
  · exact absurd hq (h v)
  · obtain ⟨tp, p, hv⟩ := ht.syn
    exact (Any.strconv_Atoi_syntax_var Tryd.laysC172 s hs hq tp p w hv).mono fun e w' ⟨N, h1, h2, h3, h4⟩ => ⟨_, _, _, h1, h4⟩
  · obtain ⟨tp, p, hv⟩ := ht.rng
    exact (Any.strconv_Atoi_range_var Tryd.laysC172 s hs hq tp p w hv).mono fun e w' ⟨N, h1, h2, h3, h4⟩ => ⟨_, _, _, h1, h4⟩

/-- a value's text -/
def textL (k n : Int) : List UInt8 := if k = 1 then Lib.itoa n else if isF k n then [102, 97, 108, 115, 101] else if isT k n then [116, 114, 117, 101] else [110, 117, 108, 108]

theorem text_num (n : Int) (w : World) (h0 : -9223372036854775808 ≤ n) (h1 : n ≤ 9223372036854775807) (ht : Tabs w) :
    Calls Tryd.prog 27 #[.agg #[.int .i64 1, .int .i64 n]] w fun e w' => e = .returned (.string ⟨(Lib.itoa n).toArray⟩) ∧ Below w.heap.size w w' := by
  have HT := ht.below ((Below.refl w.heap.size w).alloc (Nat.le_refl _) (.cells #[.int .i64 1, .int .i64 n] 32))
  have HT : Hid _ := HT
  clear ht
  go_enter Tryd.func27, Tryd.ntmps27
  go_wp2_with (go_at_call 29; refine (itoa_any _ _ h0 h1 HT.out).mono ?_; rintro e w1 ⟨rfl, hb⟩; have HB : Hid _ := hb; clear hb)
  go_ret
  exact ⟨rfl, ((Below.refl _ _).alloc (Nat.le_refl _) _).trans (HB.out.mono (by simp))⟩

theorem text_F (w : World) : Calls Tryd.prog 27 #[.agg #[.int .i64 2, .int .i64 0]] w fun e w' => e = .returned (.string ⟨#[102, 97, 108, 115, 101]⟩) ∧ Below w.heap.size w w' := by
  have HB : Hid (Below (w.alloc (.cells #[.int .i64 2, .int .i64 0] 32)).heap.size (w.alloc (.cells #[.int .i64 2, .int .i64 0] 32)) (w.alloc (.cells #[.int .i64 2, .int .i64 0] 32))) := Below.refl _ _
  have kn := kin_some (w.alloc (.cells #[.int .i64 2, .int .i64 0] 32))
  obtain ⟨kc, kf⟩ := kin_rules (w.alloc (.cells #[.int .i64 2, .int .i64 0] 32))
  go_enter Tryd.func27, Tryd.ntmps27
  go_wp2_with fail
  refine wp_region_kin HB (by kernel_rfl) (by kernel_rfl) ?_
  repeat (go_big_quiet_step ((go_at_call 13; exact kin_of (truth_bel _ _))))
  refine wpQuiet_nil ?_
  rintro _ ⟨p, rfl⟩
  have HB : Hid _ := p.h
  go_wp2_with fail
  go_ret
  exact ⟨rfl, done ((Below.refl _ _).alloc (Nat.le_refl _) _) HB⟩

theorem text_T (w : World) : Calls Tryd.prog 27 #[.agg #[.int .i64 2, .int .i64 1]] w fun e w' => e = .returned (.string ⟨#[116, 114, 117, 101]⟩) ∧ Below w.heap.size w w' := by
  have HB : Hid (Below (w.alloc (.cells #[.int .i64 2, .int .i64 1] 32)).heap.size (w.alloc (.cells #[.int .i64 2, .int .i64 1] 32)) (w.alloc (.cells #[.int .i64 2, .int .i64 1] 32))) := Below.refl _ _
  have kn := kin_some (w.alloc (.cells #[.int .i64 2, .int .i64 1] 32))
  obtain ⟨kc, kf⟩ := kin_rules (w.alloc (.cells #[.int .i64 2, .int .i64 1] 32))
  go_enter Tryd.func27, Tryd.ntmps27
  go_wp2_with fail
  refine wp_region_kin HB (by kernel_rfl) (by kernel_rfl) ?_
  repeat (go_big_quiet_step ((go_at_call 13; exact kin_of (truth_bel _ _))))
  refine wpQuiet_nil ?_
  rintro _ ⟨p, rfl⟩
  have HB : Hid _ := p.h
  go_wp2_with fail
  refine wp_region_kin HB (by kernel_rfl) (by kernel_rfl) ?_
  repeat (go_big_quiet_step ((go_at_call 13; exact kin_of (truth_bel _ _))))
  refine wpQuiet_nil ?_
  rintro _ ⟨q, rfl⟩
  have HB : Hid _ := q.h
  go_wp2_with fail
  go_ret
  exact ⟨rfl, done ((Below.refl _ _).alloc (Nat.le_refl _) _) HB⟩

theorem text_N (w : World) : Calls Tryd.prog 27 #[.agg #[.int .i64 0, .int .i64 0]] w fun e w' => e = .returned (.string ⟨#[110, 117, 108, 108]⟩) ∧ Below w.heap.size w w' := by
  have HB : Hid (Below (w.alloc (.cells #[.int .i64 0, .int .i64 0] 32)).heap.size (w.alloc (.cells #[.int .i64 0, .int .i64 0] 32)) (w.alloc (.cells #[.int .i64 0, .int .i64 0] 32))) := Below.refl _ _
  have kn := kin_some (w.alloc (.cells #[.int .i64 0, .int .i64 0] 32))
  obtain ⟨kc, kf⟩ := kin_rules (w.alloc (.cells #[.int .i64 0, .int .i64 0] 32))
  go_enter Tryd.func27, Tryd.ntmps27
  go_wp2_with fail
  refine wp_region_kin HB (by kernel_rfl) (by kernel_rfl) ?_
  repeat (go_big_quiet_step ((go_at_call 13; exact kin_of (truth_bel _ _))))
  refine wpQuiet_nil ?_
  rintro _ ⟨p, rfl⟩
  have HB : Hid _ := p.h
  go_wp2_with fail
  refine wp_region_kin HB (by kernel_rfl) (by kernel_rfl) ?_
  repeat (go_big_quiet_step ((go_at_call 13; exact kin_of (truth_bel _ _))))
  refine wpQuiet_nil ?_
  rintro _ ⟨q, rfl⟩
  have HB : Hid _ := q.h
  go_wp2_with fail
  go_ret
  exact ⟨rfl, done ((Below.refl _ _).alloc (Nat.le_refl _) _) HB⟩
end Go.Proofs.YticgfdcgobdlmaaDoor

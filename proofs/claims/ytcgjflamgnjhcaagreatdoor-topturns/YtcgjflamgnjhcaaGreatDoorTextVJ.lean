/- Own texts in one. Conditions: as named in each. -/
import Derived.Test.YtcgjflamgnjhcaaGreatDoorShelf
import Derived.Lib.ItoaNum
import Derived.Lib.AtoiAll
import Derived.Test.YtcgjflamgnjhcaaGreatDoorVals3J
import Derived.WalkSmall
import Derived.Lib.AtoiErrMem
import Derived.Test.YtcgjflamgnjhcaaGreatDoorLexPureJ
import Derived.Test.YtcgjflamgnjhcaaGreatDoorWinPureJ
set_option linter.unusedVariables false
set_option linter.unusedSimpArgs false
set_option maxRecDepth 100000
set_option maxHeartbeats 8000000
namespace Go.Proofs.YtcgjflamgnjhcaaGreatDoor
open Go.RowKit
attribute [local go_sem ↓] cI cD
theorem synG : Tryz.prog.globalNamed "strconv.ErrSyntax" = some 1 := by kernel_rfl
theorem rngG : Tryz.prog.globalNamed "strconv.ErrRange" = some 2 := by kernel_rfl
theorem powG : Tryz.prog.globalNamed "internal/strconv.uint64pow10" = some 4 := by kernel_rfl
structure Tabs (w : World) : Prop where
 pow : Lib.TabIs Tryz.prog w "internal/strconv.uint64pow10" .u64 Lib.pow10Tab
 sz : 7 ≤ w.heap.size
 syn : ∃ tp p, w.var? Tryz.prog "strconv.ErrSyntax" = some #[.iface tp p]
 rng : ∃ tp p, w.var? Tryz.prog "strconv.ErrRange" = some #[.iface tp p]
theorem Tabs.below {w w' : World} (h : Tabs w) (hb : Below w.heap.size w w') : Tabs w' :=
 ⟨var?_below hb powG (by have := h.sz; omega) h.pow, Nat.le_trans h.sz hb.size, by
  obtain ⟨tp, p, hv⟩ := h.syn;exact ⟨tp, p, var?_below hb synG (by have := h.sz; omega) hv⟩, by
  obtain ⟨tp, p, hv⟩ := h.rng;exact ⟨tp, p, var?_below hb rngG (by have := h.sz; omega) hv⟩⟩
theorem below_grow (w : World) (q : Nat) (os : Array Obj) : Below w.heap.size w (Sort.grow (w.drewN q) os) :=
 ⟨rfl, rfl, rfl, by simp [Sort.grow], fun i hi => by
  show ((w.drewN q).heap ++ os)[i]? = _
  rw [Array.getElem?_append_left (by exact hi)]
  rfl⟩
theorem itoa_any (n : Int) (w : World) (h0 : -9223372036854775808 ≤ n) (h1 : n ≤ 9223372036854775807) (ht : Tabs w) :
  Calls Tryz.prog 203 #[.int .i64 n] w fun e w' => e = .returned (.string ⟨(Lib.itoa n).toArray⟩) ∧ Below w.heap.size w w' :=
 (Any.strconv_Itoa Tryz.laysM171 n h0 h1 w ht.pow).mono fun e w' ⟨he, k, os, hw⟩ => ⟨he, by rw [hw]; exact below_grow w k os⟩
theorem bytes_below (w : World) (t : TypeId) (s : ByteArray) : Below w.heap.size w (Lib.bytesWorld w t s) := by
 exact Lib.bytesWorld_below w t s
theorem iC (s : ByteArray) (n : Int) (w : World) (hs : s.size ≤ 9223372036854775806) (h : Lib.atoiAll s.data.toList = .ok n) :
  Calls Tryz.prog 169 #[.string s] w fun e w' => e = .returned (.tuple #[.int .i64 n, .nilIface]) ∧ Below w.heap.size w w' :=
 (Any.strconv_Atoi_ok Tryz.laysC172 s hs n h w).mono fun e w' ⟨he, hw⟩ => ⟨he, by
  rcases hw with rfl | ⟨t, rfl⟩
  ·exact Below.refl _ _
  ·exact bytes_below _ _ _⟩
theorem oZ (s : ByteArray) (w : World) (hs : s.size ≤ 281474976710656) (h : ∀ n, Lib.atoiAll s.data.toList ≠ .ok n) (ht : Tabs w) :
  Calls Tryz.prog 169 #[.string s] w fun e w' => ∃ n t p, e = .returned (.tuple #[.int .i64 n, .iface t p]) ∧ Below w.heap.size w w' := by
 rcases hq : Lib.atoiAll s.data.toList with v | _ | _
 ·exact absurd hq (h v)
 ·obtain ⟨tp, p, hv⟩ := ht.syn;exact (Any.strconv_Atoi_syntax_var Tryz.laysC172 s hs hq tp p w hv).mono fun e w' ⟨N, h1, h2, h3, h4⟩ => ⟨_, _, _, h1, h4⟩
 ·obtain ⟨tp, p, hv⟩ := ht.rng;exact (Any.strconv_Atoi_range_var Tryz.laysC172 s hs hq tp p w hv).mono fun e w' ⟨N, h1, h2, h3, h4⟩ => ⟨_, _, _, h1, h4⟩
theorem nA (n : Int) (w : World) (h0 : -9223372036854775808 ≤ n) (h1 : n ≤ 9223372036854775807) (ht : Tabs w) :
  Calls Tryz.prog 221 #[.agg #[.int .i64 1, .int .i64 n]] w fun e w' => e = .returned (.string ⟨(Lib.itoa n).toArray⟩) ∧ Below w.heap.size w w' := by
 have HT := ht.below ((Below.refl w.heap.size w).alloc (Nat.le_refl _) (.cells #[.int .i64 1, .int .i64 n] 41));have HT : Hid _ := HT;clear ht
 go_enter Tryz.func221, Tryz.ntmps221
 go_wp2_with (go_at_call 203; refine (itoa_any _ _ h0 h1 HT.out).mono ?_; rintro e w1 ⟨rfl, hb⟩; have HB : Hid _ := hb; clear hb)
 go_ret
 exact ⟨rfl, ((Below.refl _ _).alloc (Nat.le_refl _) _).trans (HB.out.mono (by simp))⟩
theorem lQ (w : World) : Calls Tryz.prog 221 #[.agg #[.int .i64 2, .int .i64 0]] w fun e w' => e = .returned (.string ⟨#[102, 97, 108, 115, 101]⟩) ∧ Below w.heap.size w w' := by
 have HB : Hid (Below (w.alloc (.cells #[.int .i64 2, .int .i64 0] 41)).heap.size (w.alloc (.cells #[.int .i64 2, .int .i64 0] 41)) (w.alloc (.cells #[.int .i64 2, .int .i64 0] 41))) := Below.refl _ _;have kn := bG (w.alloc (.cells #[.int .i64 2, .int .i64 0] 41));obtain ⟨kc, kf⟩ := bn (w.alloc (.cells #[.int .i64 2, .int .i64 0] 41))
 go_enter Tryz.func221, Tryz.ntmps221
 go_wp2_with fail;refine aD HB (by kernel_rfl) (by kernel_rfl) ?_
 repeat (go_big_quiet_step ((go_at_call 124; exact co (aS _ _))))
 refine wpQuiet_nil ?_;rintro _ ⟨p, rfl⟩;have HB : Hid _ := p.h;go_wp2_with fail
 go_ret
 exact ⟨rfl, done ((Below.refl _ _).alloc (Nat.le_refl _) _) HB⟩
theorem ng (w : World) : Calls Tryz.prog 221 #[.agg #[.int .i64 2, .int .i64 1]] w fun e w' => e = .returned (.string ⟨#[116, 114, 117, 101]⟩) ∧ Below w.heap.size w w' := by
 have HB : Hid (Below (w.alloc (.cells #[.int .i64 2, .int .i64 1] 41)).heap.size (w.alloc (.cells #[.int .i64 2, .int .i64 1] 41)) (w.alloc (.cells #[.int .i64 2, .int .i64 1] 41))) := Below.refl _ _;have kn := bG (w.alloc (.cells #[.int .i64 2, .int .i64 1] 41));obtain ⟨kc, kf⟩ := bn (w.alloc (.cells #[.int .i64 2, .int .i64 1] 41))
 go_enter Tryz.func221, Tryz.ntmps221
 go_wp2_with fail;refine aD HB (by kernel_rfl) (by kernel_rfl) ?_
 repeat (go_big_quiet_step ((go_at_call 124; exact co (aS _ _))))
 refine wpQuiet_nil ?_;rintro _ ⟨p, rfl⟩;have HB : Hid _ := p.h;go_wp2_with fail;refine aD HB (by kernel_rfl) (by kernel_rfl) ?_
 repeat (go_big_quiet_step ((go_at_call 124; exact co (aS _ _))))
 refine wpQuiet_nil ?_;rintro _ ⟨q, rfl⟩;have HB : Hid _ := q.h;go_wp2_with fail
 go_ret
 exact ⟨rfl, done ((Below.refl _ _).alloc (Nat.le_refl _) _) HB⟩
theorem ju (w : World) : Calls Tryz.prog 221 #[.agg #[.int .i64 0, .int .i64 0]] w fun e w' => e = .returned (.string ⟨#[110, 117, 108, 108]⟩) ∧ Below w.heap.size w w' := by
 have HB : Hid (Below (w.alloc (.cells #[.int .i64 0, .int .i64 0] 41)).heap.size (w.alloc (.cells #[.int .i64 0, .int .i64 0] 41)) (w.alloc (.cells #[.int .i64 0, .int .i64 0] 41))) := Below.refl _ _;have kn := bG (w.alloc (.cells #[.int .i64 0, .int .i64 0] 41));obtain ⟨kc, kf⟩ := bn (w.alloc (.cells #[.int .i64 0, .int .i64 0] 41))
 go_enter Tryz.func221, Tryz.ntmps221
 go_wp2_with fail;refine aD HB (by kernel_rfl) (by kernel_rfl) ?_
 repeat (go_big_quiet_step ((go_at_call 124; exact co (aS _ _))))
 refine wpQuiet_nil ?_;rintro _ ⟨p, rfl⟩;have HB : Hid _ := p.h;go_wp2_with fail;refine aD HB (by kernel_rfl) (by kernel_rfl) ?_
 repeat (go_big_quiet_step ((go_at_call 124; exact co (aS _ _))))
 refine wpQuiet_nil ?_;rintro _ ⟨q, rfl⟩;have HB : Hid _ := q.h;go_wp2_with fail
 go_ret
 exact ⟨rfl, done ((Below.refl _ _).alloc (Nat.le_refl _) _) HB⟩
end Go.Proofs.YtcgjflamgnjhcaaGreatDoor
namespace Go.Proofs.YtcgjflamgnjhcaaGreatDoor
open Go.RowKit
attribute [local go_sem ↓] cI cD
theorem dS (w : World) (a b c d : Obj) : Below w.heap.size w ((((w.alloc a).alloc b).alloc c).alloc d) := (bh w a b c).alloc (by simp; omega) _
theorem iV {p : Prop} (h : p) : Hid p := h
theorem text_is (s : ByteArray) (n : Int) (w : World) (h0 : -1000000000 ≤ n) (h1 : n ≤ 1000000000) (hs : s.data.toList = Lib.itoa n) (ht : Tabs w) :
  Calls Tryz.prog 221 #[.agg #[.int .i64 1, .int .i64 n]] w fun e w' => e = .returned (.string s) ∧ Below w.heap.size w w' := by
 have h := nA n w (by omega) (by omega) ht;rw [← hs, Lib.mk_data] at h;exact h
theorem oR (v : Int) (h0 : -1000000000 ≤ v) (h1 : v ≤ 1000000000) : numK v = 1 ∧ numN v = v := by
 unfold numK numN;rw [if_pos ⟨h0, h1⟩, if_pos ⟨h0, h1⟩];exact ⟨rfl, rfl⟩
theorem kY {W0 wx wy : World} {o : Obj} (h : Hid (Below W0.heap.size W0 wx)) (hb : Below (wx.alloc o).heap.size (wx.alloc o) wy) : Hid (Below W0.heap.size W0 wy) := nxt (nxta h o) hb
theorem parse_N (s : ByteArray) (w : World) (tN : (s.toList == [110, 117, 108, 108]) = true) :
  Calls Tryz.prog 215 #[.string s] w fun e w' => e = .returned (.tuple #[.agg #[.int .i64 0, .int .i64 0], .nilIface]) ∧ Below w.heap.size w w' := by
 have i0 : ∀ w, (Instr.index 154 (.agg #[.int .i64 0, .int .i64 0, .int .i64 2, .int .i64 0, .int .i64 2, .int .i64 1]) (.int .i64 0)).run Tryz.prog w = .ok (.agg #[.int .i64 0, .int .i64 0]) w := fun _ => by kernel_rfl
 have i1 : ∀ w, (Instr.index 154 (.agg #[.int .i64 0, .int .i64 0, .int .i64 2, .int .i64 0, .int .i64 2, .int .i64 1]) (.int .i64 1)).run Tryz.prog w = .ok (.agg #[.int .i64 2, .int .i64 0]) w := fun _ => by kernel_rfl
 have i2 : ∀ w, (Instr.index 154 (.agg #[.int .i64 0, .int .i64 0, .int .i64 2, .int .i64 0, .int .i64 2, .int .i64 1]) (.int .i64 2)).run Tryz.prog w = .ok (.agg #[.int .i64 2, .int .i64 1]) w := fun _ => by kernel_rfl
 have HB : Hid (Below ((((w.alloc (.cells #[.int .i64 0, .int .i64 0] 41)).alloc (.cells #[.int .i64 0, .int .i64 0] 41)).alloc (.cells #[.int .i64 2, .int .i64 0] 41)).alloc (.cells #[.int .i64 2, .int .i64 1] 41)).heap.size ((((w.alloc (.cells #[.int .i64 0, .int .i64 0] 41)).alloc (.cells #[.int .i64 0, .int .i64 0] 41)).alloc (.cells #[.int .i64 2, .int .i64 0] 41)).alloc (.cells #[.int .i64 2, .int .i64 1] 41)) ((((w.alloc (.cells #[.int .i64 0, .int .i64 0] 41)).alloc (.cells #[.int .i64 0, .int .i64 0] 41)).alloc (.cells #[.int .i64 2, .int .i64 0] 41)).alloc (.cells #[.int .i64 2, .int .i64 1] 41))) := Below.refl _ _
 go_enter Tryz.func215, Tryz.ntmps215
 go_wp2_with (first | (go_at_call 125; refine (cz _).mono ?_; rintro e w' ⟨rfl, rfl⟩) | (go_at_call 124; refine (cR _ _).mono ?_; rintro e w' ⟨rfl, rfl⟩))
 go_loopw [13] (fun iv wr => ∃ j : Nat, j ≤ 0 ∧ iv = .int .i64 j ∧ Hid (Below ((((w.alloc (.cells #[.int .i64 0, .int .i64 0] 41)).alloc (.cells #[.int .i64 0, .int .i64 0] 41)).alloc (.cells #[.int .i64 2, .int .i64 0] 41)).alloc (.cells #[.int .i64 2, .int .i64 1] 41)).heap.size ((((w.alloc (.cells #[.int .i64 0, .int .i64 0] 41)).alloc (.cells #[.int .i64 0, .int .i64 0] 41)).alloc (.cells #[.int .i64 2, .int .i64 0] 41)).alloc (.cells #[.int .i64 2, .int .i64 1] 41)) wr)) (fun iv _ => 3 - (intOf iv).toNat)
 case atStart => exact ⟨0, by omega, rfl, HB⟩
 case round =>
  clear HB;obtain ⟨j, hj, rfl, HB⟩ := hrel;obtain ⟨hc, hf⟩ := rules HB;have jj : j = 0 := by omega
  clear hj
  rcases jj with rfl
  ·go_wp2_with (go_at_call 221; refine (ju _).mono ?_; rintro e w1 ⟨rfl, hb⟩; have HB := kY HB hb; obtain ⟨hc, hf⟩ := rules HB; obtain ⟨ic, jf⟩ := bcell hb; clear hb)
   have y0 : w1.cell? ⟨w.heap.size, 0, none⟩ = some (.int .i64 0) := by rw [hc _ _ (by simp only [World.size_alloc]; omega)]; go_simp
   have y1 : w1.cell? ⟨w.heap.size, 1, none⟩ = some (.int .i64 0) := by rw [hc _ _ (by simp only [World.size_alloc]; omega)]; go_simp
   exact bodyPost_ret (v := .tuple #[.agg #[.int .i64 0, .int .i64 0], .nilIface]) (by simp [results, Tryz.results215, go_sem, y0, y1]) rfl ⟨rfl, ended HB (dS _ _ _ _ _) _ _⟩
theorem parse_F (s : ByteArray) (w : World) (tN : (s.toList == [110, 117, 108, 108]) = false) (tF : (s.toList == [102, 97, 108, 115, 101]) = true) :
  Calls Tryz.prog 215 #[.string s] w fun e w' => e = .returned (.tuple #[.agg #[.int .i64 2, .int .i64 0], .nilIface]) ∧ Below w.heap.size w w' := by
 have i0 : ∀ w, (Instr.index 154 (.agg #[.int .i64 0, .int .i64 0, .int .i64 2, .int .i64 0, .int .i64 2, .int .i64 1]) (.int .i64 0)).run Tryz.prog w = .ok (.agg #[.int .i64 0, .int .i64 0]) w := fun _ => by kernel_rfl
 have i1 : ∀ w, (Instr.index 154 (.agg #[.int .i64 0, .int .i64 0, .int .i64 2, .int .i64 0, .int .i64 2, .int .i64 1]) (.int .i64 1)).run Tryz.prog w = .ok (.agg #[.int .i64 2, .int .i64 0]) w := fun _ => by kernel_rfl
 have i2 : ∀ w, (Instr.index 154 (.agg #[.int .i64 0, .int .i64 0, .int .i64 2, .int .i64 0, .int .i64 2, .int .i64 1]) (.int .i64 2)).run Tryz.prog w = .ok (.agg #[.int .i64 2, .int .i64 1]) w := fun _ => by kernel_rfl
 have HB : Hid (Below ((((w.alloc (.cells #[.int .i64 0, .int .i64 0] 41)).alloc (.cells #[.int .i64 0, .int .i64 0] 41)).alloc (.cells #[.int .i64 2, .int .i64 0] 41)).alloc (.cells #[.int .i64 2, .int .i64 1] 41)).heap.size ((((w.alloc (.cells #[.int .i64 0, .int .i64 0] 41)).alloc (.cells #[.int .i64 0, .int .i64 0] 41)).alloc (.cells #[.int .i64 2, .int .i64 0] 41)).alloc (.cells #[.int .i64 2, .int .i64 1] 41)) ((((w.alloc (.cells #[.int .i64 0, .int .i64 0] 41)).alloc (.cells #[.int .i64 0, .int .i64 0] 41)).alloc (.cells #[.int .i64 2, .int .i64 0] 41)).alloc (.cells #[.int .i64 2, .int .i64 1] 41))) := Below.refl _ _
 go_enter Tryz.func215, Tryz.ntmps215
 go_wp2_with (first | (go_at_call 125; refine (cz _).mono ?_; rintro e w' ⟨rfl, rfl⟩) | (go_at_call 124; refine (cR _ _).mono ?_; rintro e w' ⟨rfl, rfl⟩))
 go_loopw [13] (fun iv wr => ∃ j : Nat, j ≤ 1 ∧ iv = .int .i64 j ∧ Hid (Below ((((w.alloc (.cells #[.int .i64 0, .int .i64 0] 41)).alloc (.cells #[.int .i64 0, .int .i64 0] 41)).alloc (.cells #[.int .i64 2, .int .i64 0] 41)).alloc (.cells #[.int .i64 2, .int .i64 1] 41)).heap.size ((((w.alloc (.cells #[.int .i64 0, .int .i64 0] 41)).alloc (.cells #[.int .i64 0, .int .i64 0] 41)).alloc (.cells #[.int .i64 2, .int .i64 0] 41)).alloc (.cells #[.int .i64 2, .int .i64 1] 41)) wr)) (fun iv _ => 3 - (intOf iv).toNat)
 case atStart => exact ⟨0, by omega, rfl, HB⟩
 case round =>
  clear HB;obtain ⟨j, hj, rfl, HB⟩ := hrel;obtain ⟨hc, hf⟩ := rules HB;have jj : j = 0 ∨ j = 1 := by omega
  clear hj
  rcases jj with rfl | rfl
  ·go_wp2_with (go_at_call 221; refine (ju _).mono ?_; rintro e w1 ⟨rfl, hb⟩; have HB := kY HB hb; obtain ⟨hc, hf⟩ := rules HB; obtain ⟨ic, jf⟩ := bcell hb; clear hb)
   go_roundw
   case rel => exact ⟨1, by omega, rfl, HB⟩
   case measure => simp [intOf]
  ·go_wp2_with (go_at_call 221; refine (lQ _).mono ?_; rintro e w1 ⟨rfl, hb⟩; have HB := kY HB hb; obtain ⟨hc, hf⟩ := rules HB; obtain ⟨ic, jf⟩ := bcell hb; clear hb)
   have y0 : w1.cell? ⟨w.heap.size, 0, none⟩ = some (.int .i64 0) := by rw [hc _ _ (by simp only [World.size_alloc]; omega)]; go_simp
   have y1 : w1.cell? ⟨w.heap.size, 1, none⟩ = some (.int .i64 0) := by rw [hc _ _ (by simp only [World.size_alloc]; omega)]; go_simp
   exact bodyPost_ret (v := .tuple #[.agg #[.int .i64 2, .int .i64 0], .nilIface]) (by simp [results, Tryz.results215, go_sem, y0, y1]) rfl ⟨rfl, ended HB (dS _ _ _ _ _) _ _⟩
theorem parse_T (s : ByteArray) (w : World) (tN : (s.toList == [110, 117, 108, 108]) = false) (tF : (s.toList == [102, 97, 108, 115, 101]) = false) (tT : (s.toList == [116, 114, 117, 101]) = true) :
  Calls Tryz.prog 215 #[.string s] w fun e w' => e = .returned (.tuple #[.agg #[.int .i64 2, .int .i64 1], .nilIface]) ∧ Below w.heap.size w w' := by
 have i0 : ∀ w, (Instr.index 154 (.agg #[.int .i64 0, .int .i64 0, .int .i64 2, .int .i64 0, .int .i64 2, .int .i64 1]) (.int .i64 0)).run Tryz.prog w = .ok (.agg #[.int .i64 0, .int .i64 0]) w := fun _ => by kernel_rfl
 have i1 : ∀ w, (Instr.index 154 (.agg #[.int .i64 0, .int .i64 0, .int .i64 2, .int .i64 0, .int .i64 2, .int .i64 1]) (.int .i64 1)).run Tryz.prog w = .ok (.agg #[.int .i64 2, .int .i64 0]) w := fun _ => by kernel_rfl
 have i2 : ∀ w, (Instr.index 154 (.agg #[.int .i64 0, .int .i64 0, .int .i64 2, .int .i64 0, .int .i64 2, .int .i64 1]) (.int .i64 2)).run Tryz.prog w = .ok (.agg #[.int .i64 2, .int .i64 1]) w := fun _ => by kernel_rfl
 have HB : Hid (Below ((((w.alloc (.cells #[.int .i64 0, .int .i64 0] 41)).alloc (.cells #[.int .i64 0, .int .i64 0] 41)).alloc (.cells #[.int .i64 2, .int .i64 0] 41)).alloc (.cells #[.int .i64 2, .int .i64 1] 41)).heap.size ((((w.alloc (.cells #[.int .i64 0, .int .i64 0] 41)).alloc (.cells #[.int .i64 0, .int .i64 0] 41)).alloc (.cells #[.int .i64 2, .int .i64 0] 41)).alloc (.cells #[.int .i64 2, .int .i64 1] 41)) ((((w.alloc (.cells #[.int .i64 0, .int .i64 0] 41)).alloc (.cells #[.int .i64 0, .int .i64 0] 41)).alloc (.cells #[.int .i64 2, .int .i64 0] 41)).alloc (.cells #[.int .i64 2, .int .i64 1] 41))) := Below.refl _ _
 go_enter Tryz.func215, Tryz.ntmps215
 go_wp2_with (first | (go_at_call 125; refine (cz _).mono ?_; rintro e w' ⟨rfl, rfl⟩) | (go_at_call 124; refine (cR _ _).mono ?_; rintro e w' ⟨rfl, rfl⟩))
 go_loopw [13] (fun iv wr => ∃ j : Nat, j ≤ 2 ∧ iv = .int .i64 j ∧ Hid (Below ((((w.alloc (.cells #[.int .i64 0, .int .i64 0] 41)).alloc (.cells #[.int .i64 0, .int .i64 0] 41)).alloc (.cells #[.int .i64 2, .int .i64 0] 41)).alloc (.cells #[.int .i64 2, .int .i64 1] 41)).heap.size ((((w.alloc (.cells #[.int .i64 0, .int .i64 0] 41)).alloc (.cells #[.int .i64 0, .int .i64 0] 41)).alloc (.cells #[.int .i64 2, .int .i64 0] 41)).alloc (.cells #[.int .i64 2, .int .i64 1] 41)) wr)) (fun iv _ => 3 - (intOf iv).toNat)
 case atStart => exact ⟨0, by omega, rfl, HB⟩
 case round =>
  clear HB;obtain ⟨j, hj, rfl, HB⟩ := hrel;obtain ⟨hc, hf⟩ := rules HB;have jj : j = 0 ∨ j = 1 ∨ j = 2 := by omega
  clear hj
  rcases jj with rfl | rfl | rfl
  ·go_wp2_with (go_at_call 221; refine (ju _).mono ?_; rintro e w1 ⟨rfl, hb⟩; have HB := kY HB hb; obtain ⟨hc, hf⟩ := rules HB; obtain ⟨ic, jf⟩ := bcell hb; clear hb)
   go_roundw
   case rel => exact ⟨1, by omega, rfl, HB⟩
   case measure => simp [intOf]
  ·go_wp2_with (go_at_call 221; refine (lQ _).mono ?_; rintro e w1 ⟨rfl, hb⟩; have HB := kY HB hb; obtain ⟨hc, hf⟩ := rules HB; obtain ⟨ic, jf⟩ := bcell hb; clear hb)
   go_roundw
   case rel => exact ⟨2, by omega, rfl, HB⟩
   case measure => simp [intOf]
  ·go_wp2_with (go_at_call 221; refine (ng _).mono ?_; rintro e w1 ⟨rfl, hb⟩; have HB := kY HB hb; obtain ⟨hc, hf⟩ := rules HB; obtain ⟨ic, jf⟩ := bcell hb; clear hb)
   have y0 : w1.cell? ⟨w.heap.size, 0, none⟩ = some (.int .i64 0) := by rw [hc _ _ (by simp only [World.size_alloc]; omega)]; go_simp
   have y1 : w1.cell? ⟨w.heap.size, 1, none⟩ = some (.int .i64 0) := by rw [hc _ _ (by simp only [World.size_alloc]; omega)]; go_simp
   exact bodyPost_ret (v := .tuple #[.agg #[.int .i64 2, .int .i64 1], .nilIface]) (by simp [results, Tryz.results215, go_sem, y0, y1]) rfl ⟨rfl, ended HB (dS _ _ _ _ _) _ _⟩
theorem parse_num (s : ByteArray) (w : World) (ht : Tabs w) (tN : (s.toList == [110, 117, 108, 108]) = false) (tF : (s.toList == [102, 97, 108, 115, 101]) = false) (tT : (s.toList == [116, 114, 117, 101]) = false) (hs : s.size ≤ 281474976710656) (v : Int) (hv : Lib.atoiAll s.data.toList = .ok v) (b0 : -1000000000 ≤ v) (b1 : v ≤ 1000000000) (he : s.data.toList = Lib.itoa v) :
  Calls Tryz.prog 215 #[.string s] w fun e w' => e = .returned (.tuple #[.agg #[.int .i64 1, .int .i64 v], .nilIface]) ∧ Below w.heap.size w w' := by
 have HT0 : Hid (Tabs w) := ht;clear ht;have HV := iV hv;have HBd := iV (And.intro b0 b1);have HK := iV (oR v b0 b1);have HS := iV he;clear hv b0 b1 he;have i0 : ∀ w, (Instr.index 154 (.agg #[.int .i64 0, .int .i64 0, .int .i64 2, .int .i64 0, .int .i64 2, .int .i64 1]) (.int .i64 0)).run Tryz.prog w = .ok (.agg #[.int .i64 0, .int .i64 0]) w := fun _ => by kernel_rfl
 have i1 : ∀ w, (Instr.index 154 (.agg #[.int .i64 0, .int .i64 0, .int .i64 2, .int .i64 0, .int .i64 2, .int .i64 1]) (.int .i64 1)).run Tryz.prog w = .ok (.agg #[.int .i64 2, .int .i64 0]) w := fun _ => by kernel_rfl
 have i2 : ∀ w, (Instr.index 154 (.agg #[.int .i64 0, .int .i64 0, .int .i64 2, .int .i64 0, .int .i64 2, .int .i64 1]) (.int .i64 2)).run Tryz.prog w = .ok (.agg #[.int .i64 2, .int .i64 1]) w := fun _ => by kernel_rfl
 have HB : Hid (Below ((((w.alloc (.cells #[.int .i64 0, .int .i64 0] 41)).alloc (.cells #[.int .i64 0, .int .i64 0] 41)).alloc (.cells #[.int .i64 2, .int .i64 0] 41)).alloc (.cells #[.int .i64 2, .int .i64 1] 41)).heap.size ((((w.alloc (.cells #[.int .i64 0, .int .i64 0] 41)).alloc (.cells #[.int .i64 0, .int .i64 0] 41)).alloc (.cells #[.int .i64 2, .int .i64 0] 41)).alloc (.cells #[.int .i64 2, .int .i64 1] 41)) ((((w.alloc (.cells #[.int .i64 0, .int .i64 0] 41)).alloc (.cells #[.int .i64 0, .int .i64 0] 41)).alloc (.cells #[.int .i64 2, .int .i64 0] 41)).alloc (.cells #[.int .i64 2, .int .i64 1] 41))) := Below.refl _ _
 go_enter Tryz.func215, Tryz.ntmps215
 go_wp2_with (first | (go_at_call 125; refine (cz _).mono ?_; rintro e w' ⟨rfl, rfl⟩) | (go_at_call 124; refine (cR _ _).mono ?_; rintro e w' ⟨rfl, rfl⟩))
 go_loopw [13] (fun iv wr => ∃ j : Nat, j ≤ 3 ∧ iv = .int .i64 j ∧ Hid (Below ((((w.alloc (.cells #[.int .i64 0, .int .i64 0] 41)).alloc (.cells #[.int .i64 0, .int .i64 0] 41)).alloc (.cells #[.int .i64 2, .int .i64 0] 41)).alloc (.cells #[.int .i64 2, .int .i64 1] 41)).heap.size ((((w.alloc (.cells #[.int .i64 0, .int .i64 0] 41)).alloc (.cells #[.int .i64 0, .int .i64 0] 41)).alloc (.cells #[.int .i64 2, .int .i64 0] 41)).alloc (.cells #[.int .i64 2, .int .i64 1] 41)) wr)) (fun iv _ => 3 - (intOf iv).toNat)
 case atStart => exact ⟨0, by omega, rfl, HB⟩
 case round =>
  clear HB;obtain ⟨j, hj, rfl, HB⟩ := hrel;obtain ⟨hc, hf⟩ := rules HB;have jj : j = 0 ∨ j = 1 ∨ j = 2 ∨ j = 3 := by omega
  clear hj
  rcases jj with rfl | rfl | rfl | rfl
  ·go_wp2_with (go_at_call 221; refine (ju _).mono ?_; rintro e w1 ⟨rfl, hb⟩; have HB := kY HB hb; obtain ⟨hc, hf⟩ := rules HB; obtain ⟨ic, jf⟩ := bcell hb; clear hb)
   go_roundw
   case rel => exact ⟨1, by omega, rfl, HB⟩
   case measure => simp [intOf]
  ·go_wp2_with (go_at_call 221; refine (lQ _).mono ?_; rintro e w1 ⟨rfl, hb⟩; have HB := kY HB hb; obtain ⟨hc, hf⟩ := rules HB; obtain ⟨ic, jf⟩ := bcell hb; clear hb)
   go_roundw
   case rel => exact ⟨2, by omega, rfl, HB⟩
   case measure => simp [intOf]
  ·go_wp2_with (go_at_call 221; refine (ng _).mono ?_; rintro e w1 ⟨rfl, hb⟩; have HB := kY HB hb; obtain ⟨hc, hf⟩ := rules HB; obtain ⟨ic, jf⟩ := bcell hb; clear hb)
   go_roundw
   case rel => exact ⟨3, by omega, rfl, HB⟩
   case measure => simp [intOf]
  ·have HT := iV (HT0.out.below ((dS _ _ _ _ _).trans (HB.out.mono (by simp only [World.size_alloc]; omega))));go_wp2_with fail;refine (iC s v _ (by omega) HV.out).mono ?_;rintro e w3 ⟨rfl, ha⟩;have HA := iV ha;clear ha;have HT := iV (HT.out.below HA.out);have HB := nxt HB HA.out;obtain ⟨hc, hf⟩ := rules HB;go_wp2_with fail;refine (bK _ _).mono ?_;rw [HK.out.1, HK.out.2];rintro e w4 ⟨rfl, hm⟩;have HM := iV hm;clear hm;have HT := iV (HT.out.below HM.out);have HB := nxt HB HM.out;obtain ⟨hc, hf⟩ := rules HB;go_wp2_with fail;have HT := iV (HT.out.below ((Below.refl w4.heap.size w4).alloc (Nat.le_refl _) (.cells #[.int .i64 1, .int .i64 v] 41)));refine (text_is s v _ HBd.out.1 HBd.out.2 HS.out HT.out).mono ?_;rintro e w5 ⟨rfl, hb⟩;have HB := kY HB hb;obtain ⟨hc, hf⟩ := rules HB;obtain ⟨ic, jf⟩ := bcell hb;clear hb;go_wp2_with fail;have y0 : w5.cell? ⟨w.heap.size, 0, none⟩ = some (.int .i64 0) := by rw [hc _ _ (by simp only [World.size_alloc]; omega)]; go_simp
   have y1 : w5.cell? ⟨w.heap.size, 1, none⟩ = some (.int .i64 0) := by rw [hc _ _ (by simp only [World.size_alloc]; omega)]; go_simp
   exact bodyPost_ret (v := .tuple #[.agg #[.int .i64 1, .int .i64 v], .nilIface]) (by simp [results, Tryz.results215, go_sem, y0, y1]) rfl ⟨rfl, ended HB (dS _ _ _ _ _) _ _⟩
end Go.Proofs.YtcgjflamgnjhcaaGreatDoor
namespace Go.Proofs.YtcgjflamgnjhcaaGreatDoor
open Go.RowKit
attribute [local go_sem ↓] cI cD
def px (v : Int) : List UInt8 := if -1000000000 ≤ v ∧ v ≤ 1000000000 then Lib.itoa v else [110, 117, 108, 108]
theorem text_numV (v : Int) (w : World) (ht : Tabs w) :
  Calls Tryz.prog 221 #[.agg #[.int .i64 (numK v), .int .i64 (numN v)]] w fun e w' => e = .returned (.string ⟨(px v).toArray⟩) ∧ Below w.heap.size w w' := by
 unfold numK numN px
 by_cases h : -1000000000 ≤ v ∧ v ≤ 1000000000
 ·rw [if_pos h, if_pos h, if_pos h];exact nA v w (by omega) (by omega) ht
 ·rw [if_neg h, if_neg h, if_neg h];exact ju w
theorem parse_no (s : ByteArray) (w : World) (ht : Tabs w) (tN : (s.toList == [110, 117, 108, 108]) = false) (tF : (s.toList == [102, 97, 108, 115, 101]) = false) (tT : (s.toList == [116, 114, 117, 101]) = false) (hs : s.size ≤ 281474976710656) (hv : ∀ n, Lib.atoiAll s.data.toList ≠ .ok n) :
  Calls Tryz.prog 215 #[.string s] w fun e w' => e = .returned (.tuple #[.agg #[.int .i64 0, .int .i64 0], .iface 93 (.int .i64 4)]) ∧ Below w.heap.size w w' := by
 have HT0 : Hid (Tabs w) := ht;clear ht;have HV := iV hv;clear hv;have i0 : ∀ w, (Instr.index 154 (.agg #[.int .i64 0, .int .i64 0, .int .i64 2, .int .i64 0, .int .i64 2, .int .i64 1]) (.int .i64 0)).run Tryz.prog w = .ok (.agg #[.int .i64 0, .int .i64 0]) w := fun _ => by kernel_rfl
 have i1 : ∀ w, (Instr.index 154 (.agg #[.int .i64 0, .int .i64 0, .int .i64 2, .int .i64 0, .int .i64 2, .int .i64 1]) (.int .i64 1)).run Tryz.prog w = .ok (.agg #[.int .i64 2, .int .i64 0]) w := fun _ => by kernel_rfl
 have i2 : ∀ w, (Instr.index 154 (.agg #[.int .i64 0, .int .i64 0, .int .i64 2, .int .i64 0, .int .i64 2, .int .i64 1]) (.int .i64 2)).run Tryz.prog w = .ok (.agg #[.int .i64 2, .int .i64 1]) w := fun _ => by kernel_rfl
 have HB : Hid (Below ((((w.alloc (.cells #[.int .i64 0, .int .i64 0] 41)).alloc (.cells #[.int .i64 0, .int .i64 0] 41)).alloc (.cells #[.int .i64 2, .int .i64 0] 41)).alloc (.cells #[.int .i64 2, .int .i64 1] 41)).heap.size ((((w.alloc (.cells #[.int .i64 0, .int .i64 0] 41)).alloc (.cells #[.int .i64 0, .int .i64 0] 41)).alloc (.cells #[.int .i64 2, .int .i64 0] 41)).alloc (.cells #[.int .i64 2, .int .i64 1] 41)) ((((w.alloc (.cells #[.int .i64 0, .int .i64 0] 41)).alloc (.cells #[.int .i64 0, .int .i64 0] 41)).alloc (.cells #[.int .i64 2, .int .i64 0] 41)).alloc (.cells #[.int .i64 2, .int .i64 1] 41))) := Below.refl _ _
 go_enter Tryz.func215, Tryz.ntmps215
 go_wp2_with (first | (go_at_call 125; refine (cz _).mono ?_; rintro e w' ⟨rfl, rfl⟩) | (go_at_call 124; refine (cR _ _).mono ?_; rintro e w' ⟨rfl, rfl⟩))
 go_loopw [13] (fun iv wr => ∃ j : Nat, j ≤ 3 ∧ iv = .int .i64 j ∧ Hid (Below ((((w.alloc (.cells #[.int .i64 0, .int .i64 0] 41)).alloc (.cells #[.int .i64 0, .int .i64 0] 41)).alloc (.cells #[.int .i64 2, .int .i64 0] 41)).alloc (.cells #[.int .i64 2, .int .i64 1] 41)).heap.size ((((w.alloc (.cells #[.int .i64 0, .int .i64 0] 41)).alloc (.cells #[.int .i64 0, .int .i64 0] 41)).alloc (.cells #[.int .i64 2, .int .i64 0] 41)).alloc (.cells #[.int .i64 2, .int .i64 1] 41)) wr)) (fun iv _ => 3 - (intOf iv).toNat)
 case atStart => exact ⟨0, by omega, rfl, HB⟩
 case round =>
  clear HB;obtain ⟨j, hj, rfl, HB⟩ := hrel;obtain ⟨hc, hf⟩ := rules HB;have jj : j = 0 ∨ j = 1 ∨ j = 2 ∨ j = 3 := by omega
  clear hj
  rcases jj with rfl | rfl | rfl | rfl
  ·go_wp2_with (go_at_call 221; refine (ju _).mono ?_; rintro e w1 ⟨rfl, hb⟩; have HB := kY HB hb; obtain ⟨hc, hf⟩ := rules HB; obtain ⟨ic, jf⟩ := bcell hb; clear hb)
   go_roundw
   case rel => exact ⟨1, by omega, rfl, HB⟩
   case measure => simp [intOf]
  ·go_wp2_with (go_at_call 221; refine (lQ _).mono ?_; rintro e w1 ⟨rfl, hb⟩; have HB := kY HB hb; obtain ⟨hc, hf⟩ := rules HB; obtain ⟨ic, jf⟩ := bcell hb; clear hb)
   go_roundw
   case rel => exact ⟨2, by omega, rfl, HB⟩
   case measure => simp [intOf]
  ·go_wp2_with (go_at_call 221; refine (ng _).mono ?_; rintro e w1 ⟨rfl, hb⟩; have HB := kY HB hb; obtain ⟨hc, hf⟩ := rules HB; obtain ⟨ic, jf⟩ := bcell hb; clear hb)
   go_roundw
   case rel => exact ⟨3, by omega, rfl, HB⟩
   case measure => simp [intOf]
  ·have HT := iV (HT0.out.below ((dS _ _ _ _ _).trans (HB.out.mono (by simp only [World.size_alloc]; omega))));go_wp2_with fail;refine (oZ s _ hs HV.out HT.out).mono ?_;rintro e w3 ⟨v, ti, pv, rfl, ha⟩;have HA := iV ha;clear ha;have HT := iV (HT.out.below HA.out);have HB := nxt HB HA.out;obtain ⟨hc, hf⟩ := rules HB;go_wp2_with fail;refine (bK _ _).mono ?_;rintro e w4 ⟨rfl, hm⟩;have HM := iV hm;clear hm;have HT := iV (HT.out.below HM.out);have HB := nxt HB HM.out;obtain ⟨hc, hf⟩ := rules HB
   go_wp2_with (go_at_call 125; refine (cX _).mono ?_; rintro e w6 ⟨rfl, hb⟩; have HB := kY HB hb; obtain ⟨hc, hf⟩ := rules HB; clear hb)
   have y0 : w6.cell? ⟨w.heap.size, 0, none⟩ = some (.int .i64 0) := by rw [hc _ _ (by simp only [World.size_alloc]; omega)]; go_simp
   have y1 : w6.cell? ⟨w.heap.size, 1, none⟩ = some (.int .i64 0) := by rw [hc _ _ (by simp only [World.size_alloc]; omega)]; go_simp
   exact bodyPost_ret (v := .tuple #[.agg #[.int .i64 0, .int .i64 0], .iface 93 (.int .i64 4)]) (by simp [results, Tryz.results215, go_sem, y0, y1]) rfl ⟨rfl, ended HB (dS _ _ _ _ _) _ _⟩
theorem jN (s : ByteArray) (w : World) (ht : Tabs w) (tN : (s.toList == [110, 117, 108, 108]) = false) (tF : (s.toList == [102, 97, 108, 115, 101]) = false) (tT : (s.toList == [116, 114, 117, 101]) = false) (hs : s.size ≤ 281474976710656) (v : Int) (hv : Lib.atoiAll s.data.toList = .ok v) (he : s.data.toList ≠ px v) :
  Calls Tryz.prog 215 #[.string s] w fun e w' => e = .returned (.tuple #[.agg #[.int .i64 0, .int .i64 0], .iface 93 (.int .i64 4)]) ∧ Below w.heap.size w w' := by
 have HT0 : Hid (Tabs w) := ht;clear ht;have HV := iV hv;clear hv;obtain ⟨t, rfl⟩ : ∃ t : ByteArray, t = ⟨(px v).toArray⟩ := ⟨_, rfl⟩;have q2 : (s.toList == (⟨(px v).toArray⟩ : ByteArray).toList) = false := by
  rw [Lib.toList_data, Lib.toList_data]
  apply beq_eq_false_iff_ne.2
  intro e;exact he (by rw [e])
 have q3 : (s.toList == px v) = false := by
  rw [Lib.toList_data]
  apply beq_eq_false_iff_ne.2
  exact he
 clear he;have i0 : ∀ w, (Instr.index 154 (.agg #[.int .i64 0, .int .i64 0, .int .i64 2, .int .i64 0, .int .i64 2, .int .i64 1]) (.int .i64 0)).run Tryz.prog w = .ok (.agg #[.int .i64 0, .int .i64 0]) w := fun _ => by kernel_rfl
 have i1 : ∀ w, (Instr.index 154 (.agg #[.int .i64 0, .int .i64 0, .int .i64 2, .int .i64 0, .int .i64 2, .int .i64 1]) (.int .i64 1)).run Tryz.prog w = .ok (.agg #[.int .i64 2, .int .i64 0]) w := fun _ => by kernel_rfl
 have i2 : ∀ w, (Instr.index 154 (.agg #[.int .i64 0, .int .i64 0, .int .i64 2, .int .i64 0, .int .i64 2, .int .i64 1]) (.int .i64 2)).run Tryz.prog w = .ok (.agg #[.int .i64 2, .int .i64 1]) w := fun _ => by kernel_rfl
 have HB : Hid (Below ((((w.alloc (.cells #[.int .i64 0, .int .i64 0] 41)).alloc (.cells #[.int .i64 0, .int .i64 0] 41)).alloc (.cells #[.int .i64 2, .int .i64 0] 41)).alloc (.cells #[.int .i64 2, .int .i64 1] 41)).heap.size ((((w.alloc (.cells #[.int .i64 0, .int .i64 0] 41)).alloc (.cells #[.int .i64 0, .int .i64 0] 41)).alloc (.cells #[.int .i64 2, .int .i64 0] 41)).alloc (.cells #[.int .i64 2, .int .i64 1] 41)) ((((w.alloc (.cells #[.int .i64 0, .int .i64 0] 41)).alloc (.cells #[.int .i64 0, .int .i64 0] 41)).alloc (.cells #[.int .i64 2, .int .i64 0] 41)).alloc (.cells #[.int .i64 2, .int .i64 1] 41))) := Below.refl _ _
 go_enter Tryz.func215, Tryz.ntmps215
 go_wp2_with (first | (go_at_call 125; refine (cz _).mono ?_; rintro e w' ⟨rfl, rfl⟩) | (go_at_call 124; refine (cR _ _).mono ?_; rintro e w' ⟨rfl, rfl⟩))
 go_loopw [13] (fun iv wr => ∃ j : Nat, j ≤ 3 ∧ iv = .int .i64 j ∧ Hid (Below ((((w.alloc (.cells #[.int .i64 0, .int .i64 0] 41)).alloc (.cells #[.int .i64 0, .int .i64 0] 41)).alloc (.cells #[.int .i64 2, .int .i64 0] 41)).alloc (.cells #[.int .i64 2, .int .i64 1] 41)).heap.size ((((w.alloc (.cells #[.int .i64 0, .int .i64 0] 41)).alloc (.cells #[.int .i64 0, .int .i64 0] 41)).alloc (.cells #[.int .i64 2, .int .i64 0] 41)).alloc (.cells #[.int .i64 2, .int .i64 1] 41)) wr)) (fun iv _ => 3 - (intOf iv).toNat)
 case atStart => exact ⟨0, by omega, rfl, HB⟩
 case round =>
  clear HB;obtain ⟨j, hj, rfl, HB⟩ := hrel;obtain ⟨hc, hf⟩ := rules HB;have jj : j = 0 ∨ j = 1 ∨ j = 2 ∨ j = 3 := by omega
  clear hj
  rcases jj with rfl | rfl | rfl | rfl
  ·go_wp2_with (go_at_call 221; refine (ju _).mono ?_; rintro e w1 ⟨rfl, hb⟩; have HB := kY HB hb; obtain ⟨hc, hf⟩ := rules HB; obtain ⟨ic, jf⟩ := bcell hb; clear hb)
   go_roundw
   case rel => exact ⟨1, by omega, rfl, HB⟩
   case measure => simp [intOf]
  ·go_wp2_with (go_at_call 221; refine (lQ _).mono ?_; rintro e w1 ⟨rfl, hb⟩; have HB := kY HB hb; obtain ⟨hc, hf⟩ := rules HB; obtain ⟨ic, jf⟩ := bcell hb; clear hb)
   go_roundw
   case rel => exact ⟨2, by omega, rfl, HB⟩
   case measure => simp [intOf]
  ·go_wp2_with (go_at_call 221; refine (ng _).mono ?_; rintro e w1 ⟨rfl, hb⟩; have HB := kY HB hb; obtain ⟨hc, hf⟩ := rules HB; obtain ⟨ic, jf⟩ := bcell hb; clear hb)
   go_roundw
   case rel => exact ⟨3, by omega, rfl, HB⟩
   case measure => simp [intOf]
  ·have HT := iV (HT0.out.below ((dS _ _ _ _ _).trans (HB.out.mono (by simp only [World.size_alloc]; omega))));go_wp2_with fail;refine (iC s v _ (by omega) HV.out).mono ?_;rintro e w3 ⟨rfl, ha⟩;have HA := iV ha;clear ha;have HT := iV (HT.out.below HA.out);have HB := nxt HB HA.out;obtain ⟨hc, hf⟩ := rules HB;go_wp2_with fail;refine (bK _ _).mono ?_;rintro e w4 ⟨rfl, hm⟩;have HM := iV hm;clear hm;have HT := iV (HT.out.below HM.out);have HB := nxt HB HM.out;obtain ⟨hc, hf⟩ := rules HB;go_wp2_with fail;have HT := iV (HT.out.below ((Below.refl w4.heap.size w4).alloc (Nat.le_refl _) (.cells #[.int .i64 (numK v), .int .i64 (numN v)] 41)));refine (text_numV v _ HT.out).mono ?_;rintro e w5 ⟨rfl, hb⟩;have HB := kY HB hb;obtain ⟨hc, hf⟩ := rules HB;obtain ⟨ic, jf⟩ := bcell hb;clear hb
   go_wp2_with (go_at_call 125; refine (cX _).mono ?_; rintro e w6 ⟨rfl, hb⟩; have HB := nxt HB hb; obtain ⟨hc, hf⟩ := rules HB; clear hb)
   have y0 : w6.cell? ⟨w.heap.size, 0, none⟩ = some (.int .i64 0) := by rw [hc _ _ (by simp only [World.size_alloc]; omega)]; go_simp
   have y1 : w6.cell? ⟨w.heap.size, 1, none⟩ = some (.int .i64 0) := by rw [hc _ _ (by simp only [World.size_alloc]; omega)]; go_simp
   exact bodyPost_ret (v := .tuple #[.agg #[.int .i64 0, .int .i64 0], .iface 93 (.int .i64 4)]) (by simp [results, Tryz.results215, go_sem, y0, y1]) rfl ⟨rfl, ended HB (dS _ _ _ _ _) _ _⟩
end Go.Proofs.YtcgjflamgnjhcaaGreatDoor
namespace Go.Proofs.YtcgjflamgnjhcaaGreatDoor
open Go.Lib
theorem jT (most : Nat) (hm : most ≤ 1000000000) : ∀ (l : List UInt8) (acc v : Nat), acc ≤ most → pw most acc l = some v → parseUint10 acc l = .ok v ∧ v ≤ most
 | [], acc, v, ha, h => by
  simp only [pw] at h;cases h;exact ⟨rfl, ha⟩
 | c :: r, acc, v, ha, h => by
  simp only [pw] at h
  by_cases h1 : c.toNat < 48 ∨ 57 < c.toNat
  ·rw [if_pos h1] at h; cases h
  ·rw [if_neg h1] at h
   by_cases h2 : most < 10 * acc + (c.toNat - 48)
   ·rw [if_pos h2] at h; cases h
   ·rw [if_neg h2] at h;have ih := jT most hm r _ v (by omega) h;simp only [parseUint10];rw [if_pos (by omega), if_neg (by omega), if_neg (by omega), show acc * 10 + (c.toNat - 48) = 10 * acc + (c.toNat - 48) from by omega];exact ih
theorem parse_ge : ∀ (l : List UInt8) (acc v : Nat), parseUint10 acc l = .ok v → acc ≤ v
 | [], acc, v, h => by
  simp only [parseUint10] at h;injection h with h
  omega
 | c :: r, acc, v, h => by
  simp only [parseUint10] at h
  by_cases h1 : 48 ≤ c.toNat ∧ c.toNat ≤ 57
  ·rw [if_pos h1] at h
   by_cases h2 : 1844674407370955162 ≤ acc
   ·rw [if_pos h2] at h; cases h
   ·rw [if_neg h2] at h
    by_cases h3 : 18446744073709551616 ≤ acc * 10 + (c.toNat - 48)
    ·rw [if_pos h3] at h; cases h
    ·rw [if_neg h3] at h;have := parse_ge r _ v h;omega
  ·rw [if_neg h1] at h; cases h
theorem lP (most : Nat) : ∀ (l : List UInt8) (acc v : Nat), pw most acc l = none → parseUint10 acc l = .ok v → most < v
 | [], acc, v, h, _ => by simp [pw] at h
 | c :: r, acc, v, h, hp => by
  simp only [pw] at h;simp only [parseUint10] at hp
  by_cases h1 : c.toNat < 48 ∨ 57 < c.toNat
  ·rw [if_neg (by omega)] at hp; cases hp
  ·rw [if_neg h1] at h;rw [if_pos (by omega)] at hp
   by_cases h2 : 1844674407370955162 ≤ acc
   ·rw [if_pos h2] at hp; cases hp
   ·rw [if_neg h2] at hp
    by_cases h3 : 18446744073709551616 ≤ acc * 10 + (c.toNat - 48)
    ·rw [if_pos h3] at hp; cases hp
    ·rw [if_neg h3] at hp
     by_cases h4 : most < 10 * acc + (c.toNat - 48)
     ·have := parse_ge r _ v hp;omega
     ·rw [if_neg h4] at h;exact lP most r _ v h (by rw [show 10 * acc + (c.toNat - 48) = acc * 10 + (c.toNat - 48) from by omega]; exact hp)
theorem digit_of_natM {most acc v : Nat} {c : UInt8} {r : List UInt8} (h : pw most acc (c :: r) = some v) : 48 ≤ c.toNat ∧ c.toNat ≤ 57 := by
 simp only [pw] at h
 by_cases h1 : c.toNat < 48 ∨ 57 < c.toNat
 ·rw [if_pos h1] at h; cases h
 ·omega
theorem mh {most n : Nat} {s : ByteArray} (hm : most ≤ 1000000000) (h : nK most s = some n) : atoiAll s.data.toList = .ok (n : Int) ∧ n ≤ most := by
 unfold nK at h;cases hl : s.data.toList with
 | nil => rw [hl] at h; simp at h
 | cons c r =>
  rw [hl] at h;rw [if_neg (by simp)] at h;have hd := digit_of_natM h;obtain ⟨hp, hv⟩ := jT most hm (c :: r) 0 n (by omega) h;refine ⟨?_, hv⟩;unfold atoiAll;have e : (if c.toNat = 43 ∨ c.toNat = 45 then r else c :: r) = c :: r := if_neg (by omega);have hmg : parseMag (c :: r) = .ok n := by unfold parseMag; rw [if_neg (by simp)]; exact hp
  simp only [e, hmg];rw [if_neg (by omega), if_neg (by omega), if_neg (by omega)]
theorem pR {most : Nat} {s : ByteArray} (hw : wordy s.data.toList ∨ s.data.toList = []) (h : nK most s = none) : ∀ v, atoiAll s.data.toList = .ok v → (most : Int) < v := by
 intro v hv;unfold nK at h;cases hl : s.data.toList with
 | nil => rw [hl] at hv; simp [atoiAll] at hv
 | cons c r =>
  rw [hl] at h hv hw;rw [if_neg (by simp)] at h;have hw : wordy (c :: r) := hw.elim id (fun e => by cases e);unfold atoiAll at hv
  by_cases hd : 48 ≤ c.toNat ∧ c.toNat ≤ 57
  ·have e : (if c.toNat = 43 ∨ c.toNat = 45 then r else c :: r) = c :: r := if_neg (by omega);simp only [e] at hv;cases hp : parseMag (c :: r) with
   | «syntax» => rw [hp] at hv; cases hv
   | range => rw [hp] at hv; cases hv
   | ok u =>
    rw [hp] at hv;have hp2 : parseUint10 0 (c :: r) = .ok u := by unfold parseMag at hp; rw [if_neg (by simp)] at hp; exact hp
    have hg := lP most (c :: r) 0 u h hp2
    simp only at hv
    by_cases h1 : ¬ c.toNat = 45 ∧ 9223372036854775808 ≤ u
    ·rw [if_pos h1] at hv; cases hv
    ·rw [if_neg h1, if_neg (by omega), if_neg (by omega)] at hv;injection hv with hv
     omega
  ·exfalso
   have hbad : ∀ l : List UInt8, (l = c :: r ∨ l = []) → ∀ u, parseMag l ≠ .ok u := fun l hl u hu => by
    rcases hl with rfl | rfl
    ·unfold parseMag at hu;rw [if_neg (by simp)] at hu;simp only [parseUint10] at hu;rw [if_neg hd] at hu;cases hu
    ·unfold parseMag at hu;simp at hu
   have hr : (c.toNat = 43 ∨ c.toNat = 45) → r = [] := fun hs => by
    rcases hw.2 with q | q | ⟨a, b, e9, q⟩ | ⟨a, e9, -⟩
    ·have := q c (List.mem_cons_self ..);simp only [d8, decide_eq_true_eq] at this;omega
    ·have := q c (List.mem_cons_self ..);simp only [dc, decide_eq_true_eq] at this;omega
    ·cases e9;simp only [gS, Bool.or_eq_true, Bool.and_eq_true, beq_iff_eq] at q;omega
    ·cases e9; rfl
   have hb2 : ∀ u, parseMag (if c.toNat = 43 ∨ c.toNat = 45 then r else c :: r) ≠ .ok u := by
    by_cases hs : c.toNat = 43 ∨ c.toNat = 45
    ·rw [if_pos hs];exact hbad r (.inr (hr hs))
    ·rw [if_neg hs];exact hbad _ (.inl rfl)
   cases hp : parseMag (if c.toNat = 43 ∨ c.toNat = 45 then r else c :: r) with
   | «syntax» => simp only [hp] at hv; cases hv
   | range => simp only [hp] at hv; cases hv
   | ok u => exact hb2 u hp
end Go.Proofs.YtcgjflamgnjhcaaGreatDoor
namespace Go.Proofs.YtcgjflamgnjhcaaGreatDoor
open Go.ChangeShapes Go.WideShapes Go.ChangeAt Go.RowKit
def WQ (s : ByteArray) : Prop := (wordy s.data.toList ∨ s.data.toList = []) ∧ s.size ≤ 240
def lN (most : Nat) (s : ByteArray) : Int × Bool := match nK most s with
 | some n => (n, true)
 | none => (0, false)
theorem fd (most : Nat) (hm : most ≤ 1000000000) (s : ByteArray) (hw : WQ s) (w : World) (ht : Tabs w) :
  Calls Tryz.prog 151 #[.string s, .int .i64 (most : Int)] w fun e w' => e = .returned (.tuple #[.int .i64 (lN most s).1, .bool (lN most s).2]) ∧ Below w.heap.size w w' := by
 have hsz := hw.2;cases hq : nK most s with
 | some n =>
  obtain ⟨h1, h2⟩ := mh hm hq;have AT := aa (iC s n w (by omega) h1);have e : lN most s = ((n : Int), true) := by unfold lN; rw [hq]
  rw [e];have d1 : decide ((most : Int) < (n : Int)) = false := by simp; omega
  clear hq h1 e hw hm
  go_enter Tryz.func151, Tryz.ntmps151
  go_wp2_with fail;refine AT.out.mono ?_;rintro e w1 ⟨rfl, hb⟩;have HB := aa hb;clear hb AT;go_wp2_with fail
  go_ret2
  exact ⟨rfl, HB.out⟩
 | none =>
  have e : lN most s = (0, false) := by unfold lN; rw [hq]
  rw [e];have hno := pR hw.1 hq
  by_cases hv : ∃ v, Lib.atoiAll s.data.toList = .ok v
  ·obtain ⟨v, hv⟩ := hv;have hlt := hno v hv;have AT := aa (iC s v w (by omega) hv);have d1 : decide ((most : Int) < v) = true := by simp; omega
   clear hq hv e hw hm hno hlt
   go_enter Tryz.func151, Tryz.ntmps151
   go_wp2_with fail;refine AT.out.mono ?_;rintro e w1 ⟨rfl, hb⟩;have HB := aa hb;clear hb AT;go_wp2_with fail
   go_ret2
   exact ⟨rfl, HB.out⟩
  ·have AT := aa (oZ s w (by omega) (fun v h => hv ⟨v, h⟩) ht);clear hq hv e hw hm hno
   go_enter Tryz.func151, Tryz.ntmps151
   go_wp2_with fail;refine AT.out.mono ?_;rintro e w1 ⟨v, t, p, rfl, hb⟩;have HB := aa hb;clear hb AT;go_wp2_with fail
   go_ret2
   exact ⟨rfl, HB.out⟩
end Go.Proofs.YtcgjflamgnjhcaaGreatDoor

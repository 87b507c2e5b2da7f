/- The contract of value.Parse, over this seat's translation: what each text is read as. Conditions: as for the texts of values; a text of at most 2^48 bytes. -/
import Derived.Test.YteaanpdckkmjoaaGreatDoorItoaPureJ
namespace Go.Proofs.YteaanpdckkmjoaaGreatDoor
open Go.RowKit
set_option linter.unusedVariables false
set_option linter.unusedSimpArgs false
attribute [local go_sem ↓] eql_value neq_value

theorem w4_below (w : World) (a b c d : Obj) : Below w.heap.size w ((((w.alloc a).alloc b).alloc c).alloc d) := (w3_below w a b c).alloc (by simp; omega) _

theorem hidT {p : Prop} (h : p) : Hid p := h

theorem text_is (s : ByteArray) (n : Int) (w : World) (h0 : -1000000000 ≤ n) (h1 : n ≤ 1000000000) (hs : s.data.toList = Lib.itoa n) (ht : Tabs w) :
    Calls Tryz.prog 91 #[.agg #[.int .i64 1, .int .i64 n]] w fun e w' => e = .returned (.string s) ∧ Below w.heap.size w w' := by
  have h := text_num n w (by omega) (by omega) ht
  rw [← hs, Lib.mk_data] at h
  exact h

theorem num_in (v : Int) (h0 : -1000000000 ≤ v) (h1 : v ≤ 1000000000) : numK v = 1 ∧ numN v = v := by
  unfold numK numN
  rw [if_pos ⟨h0, h1⟩, if_pos ⟨h0, h1⟩]
  exact ⟨rfl, rfl⟩

/-- behind a call in a world that a block more was laid in -/
theorem nxt2 {W0 wx wy : World} {o : Obj} (h : Hid (Below W0.heap.size W0 wx)) (hb : Below (wx.alloc o).heap.size (wx.alloc o) wy) : Hid (Below W0.heap.size W0 wy) := nxt (nxta h o) hb

set_option maxRecDepth 100000 in
theorem parse_N (s : ByteArray) (w : World) (tN : (s.toList == [110, 117, 108, 108]) = true) :
    Calls Tryz.prog 142 #[.string s] w fun e w' => e = .returned (.tuple #[.agg #[.int .i64 0, .int .i64 0], .nilIface]) ∧ Below w.heap.size w w' := by
  have i0 : ∀ w, (Instr.index 174 (.agg #[.int .i64 0, .int .i64 0, .int .i64 2, .int .i64 0, .int .i64 2, .int .i64 1]) (.int .i64 0)).run Tryz.prog w = .ok (.agg #[.int .i64 0, .int .i64 0]) w := fun _ => by kernel_rfl
  have i1 : ∀ w, (Instr.index 174 (.agg #[.int .i64 0, .int .i64 0, .int .i64 2, .int .i64 0, .int .i64 2, .int .i64 1]) (.int .i64 1)).run Tryz.prog w = .ok (.agg #[.int .i64 2, .int .i64 0]) w := fun _ => by kernel_rfl
  have i2 : ∀ w, (Instr.index 174 (.agg #[.int .i64 0, .int .i64 0, .int .i64 2, .int .i64 0, .int .i64 2, .int .i64 1]) (.int .i64 2)).run Tryz.prog w = .ok (.agg #[.int .i64 2, .int .i64 1]) w := fun _ => by kernel_rfl
  have HB : Hid (Below ((((w.alloc (.cells #[.int .i64 0, .int .i64 0] 89)).alloc (.cells #[.int .i64 0, .int .i64 0] 89)).alloc (.cells #[.int .i64 2, .int .i64 0] 89)).alloc (.cells #[.int .i64 2, .int .i64 1] 89)).heap.size ((((w.alloc (.cells #[.int .i64 0, .int .i64 0] 89)).alloc (.cells #[.int .i64 0, .int .i64 0] 89)).alloc (.cells #[.int .i64 2, .int .i64 0] 89)).alloc (.cells #[.int .i64 2, .int .i64 1] 89)) ((((w.alloc (.cells #[.int .i64 0, .int .i64 0] 89)).alloc (.cells #[.int .i64 0, .int .i64 0] 89)).alloc (.cells #[.int .i64 2, .int .i64 0] 89)).alloc (.cells #[.int .i64 2, .int .i64 1] 89))) := Below.refl _ _
  go_enter Tryz.func142, Tryz.ntmps142
  go_wp2_with (first | (go_at_call 104; refine (null_any _).mono ?_; rintro e w' ⟨rfl, rfl⟩) | (go_at_call 108; refine (truth_any _ _).mono ?_; rintro e w' ⟨rfl, rfl⟩))
  go_loopw [13] (fun iv wr => ∃ j : Nat, j ≤ 0 ∧ iv = .int .i64 j ∧ Hid (Below ((((w.alloc (.cells #[.int .i64 0, .int .i64 0] 89)).alloc (.cells #[.int .i64 0, .int .i64 0] 89)).alloc (.cells #[.int .i64 2, .int .i64 0] 89)).alloc (.cells #[.int .i64 2, .int .i64 1] 89)).heap.size ((((w.alloc (.cells #[.int .i64 0, .int .i64 0] 89)).alloc (.cells #[.int .i64 0, .int .i64 0] 89)).alloc (.cells #[.int .i64 2, .int .i64 0] 89)).alloc (.cells #[.int .i64 2, .int .i64 1] 89)) wr)) (fun iv _ => 3 - (intOf iv).toNat)
  case atStart => exact ⟨0, by omega, rfl, HB⟩
  case round =>
    clear HB
    obtain ⟨j, hj, rfl, HB⟩ := hrel
    obtain ⟨hc, hf⟩ := rules HB
    have jj : j = 0 := by omega
    clear hj
    rcases jj with rfl
    · go_wp2_with (go_at_call 91; refine (text_N _).mono ?_; rintro e w1 ⟨rfl, hb⟩; have HB := nxt2 HB hb; obtain ⟨hc, hf⟩ := rules HB; obtain ⟨ic, jf⟩ := bcell hb; clear hb)
      have y0 : w1.cell? ⟨w.heap.size, 0, none⟩ = some (.int .i64 0) := by rw [hc _ _ (by simp only [World.size_alloc]; omega)]; go_simp
      have y1 : w1.cell? ⟨w.heap.size, 1, none⟩ = some (.int .i64 0) := by rw [hc _ _ (by simp only [World.size_alloc]; omega)]; go_simp
      exact bodyPost_ret (v := .tuple #[.agg #[.int .i64 0, .int .i64 0], .nilIface]) (by simp [results, Tryz.results142, go_sem, y0, y1]) rfl ⟨rfl, ended HB (w4_below _ _ _ _ _) _ _⟩

set_option maxRecDepth 100000 in
theorem parse_F (s : ByteArray) (w : World) (tN : (s.toList == [110, 117, 108, 108]) = false) (tF : (s.toList == [102, 97, 108, 115, 101]) = true) :
    Calls Tryz.prog 142 #[.string s] w fun e w' => e = .returned (.tuple #[.agg #[.int .i64 2, .int .i64 0], .nilIface]) ∧ Below w.heap.size w w' := by
  have i0 : ∀ w, (Instr.index 174 (.agg #[.int .i64 0, .int .i64 0, .int .i64 2, .int .i64 0, .int .i64 2, .int .i64 1]) (.int .i64 0)).run Tryz.prog w = .ok (.agg #[.int .i64 0, .int .i64 0]) w := fun _ => by kernel_rfl
  have i1 : ∀ w, (Instr.index 174 (.agg #[.int .i64 0, .int .i64 0, .int .i64 2, .int .i64 0, .int .i64 2, .int .i64 1]) (.int .i64 1)).run Tryz.prog w = .ok (.agg #[.int .i64 2, .int .i64 0]) w := fun _ => by kernel_rfl
  have i2 : ∀ w, (Instr.index 174 (.agg #[.int .i64 0, .int .i64 0, .int .i64 2, .int .i64 0, .int .i64 2, .int .i64 1]) (.int .i64 2)).run Tryz.prog w = .ok (.agg #[.int .i64 2, .int .i64 1]) w := fun _ => by kernel_rfl
  have HB : Hid (Below ((((w.alloc (.cells #[.int .i64 0, .int .i64 0] 89)).alloc (.cells #[.int .i64 0, .int .i64 0] 89)).alloc (.cells #[.int .i64 2, .int .i64 0] 89)).alloc (.cells #[.int .i64 2, .int .i64 1] 89)).heap.size ((((w.alloc (.cells #[.int .i64 0, .int .i64 0] 89)).alloc (.cells #[.int .i64 0, .int .i64 0] 89)).alloc (.cells #[.int .i64 2, .int .i64 0] 89)).alloc (.cells #[.int .i64 2, .int .i64 1] 89)) ((((w.alloc (.cells #[.int .i64 0, .int .i64 0] 89)).alloc (.cells #[.int .i64 0, .int .i64 0] 89)).alloc (.cells #[.int .i64 2, .int .i64 0] 89)).alloc (.cells #[.int .i64 2, .int .i64 1] 89))) := Below.refl _ _
  go_enter Tryz.func142, Tryz.ntmps142
  go_wp2_with (first | (go_at_call 104; refine (null_any _).mono ?_; rintro e w' ⟨rfl, rfl⟩) | (go_at_call 108; refine (truth_any _ _).mono ?_; rintro e w' ⟨rfl, rfl⟩))
  go_loopw [13] (fun iv wr => ∃ j : Nat, j ≤ 1 ∧ iv = .int .i64 j ∧ Hid (Below ((((w.alloc (.cells #[.int .i64 0, .int .i64 0] 89)).alloc (.cells #[.int .i64 0, .int .i64 0] 89)).alloc (.cells #[.int .i64 2, .int .i64 0] 89)).alloc (.cells #[.int .i64 2, .int .i64 1] 89)).heap.size ((((w.alloc (.cells #[.int .i64 0, .int .i64 0] 89)).alloc (.cells #[.int .i64 0, .int .i64 0] 89)).alloc (.cells #[.int .i64 2, .int .i64 0] 89)).alloc (.cells #[.int .i64 2, .int .i64 1] 89)) wr)) (fun iv _ => 3 - (intOf iv).toNat)
  case atStart => exact ⟨0, by omega, rfl, HB⟩
  case round =>
    clear HB
    obtain ⟨j, hj, rfl, HB⟩ := hrel
    obtain ⟨hc, hf⟩ := rules HB
    have jj : j = 0 ∨ j = 1 := by omega
    clear hj
    rcases jj with rfl | rfl
    · go_wp2_with (go_at_call 91; refine (text_N _).mono ?_; rintro e w1 ⟨rfl, hb⟩; have HB := nxt2 HB hb; obtain ⟨hc, hf⟩ := rules HB; obtain ⟨ic, jf⟩ := bcell hb; clear hb)
      go_roundw
      case rel => exact ⟨1, by omega, rfl, HB⟩
      case measure => simp [intOf]
    · go_wp2_with (go_at_call 91; refine (text_F _).mono ?_; rintro e w1 ⟨rfl, hb⟩; have HB := nxt2 HB hb; obtain ⟨hc, hf⟩ := rules HB; obtain ⟨ic, jf⟩ := bcell hb; clear hb)
      have y0 : w1.cell? ⟨w.heap.size, 0, none⟩ = some (.int .i64 0) := by rw [hc _ _ (by simp only [World.size_alloc]; omega)]; go_simp
      have y1 : w1.cell? ⟨w.heap.size, 1, none⟩ = some (.int .i64 0) := by rw [hc _ _ (by simp only [World.size_alloc]; omega)]; go_simp
      exact bodyPost_ret (v := .tuple #[.agg #[.int .i64 2, .int .i64 0], .nilIface]) (by simp [results, Tryz.results142, go_sem, y0, y1]) rfl ⟨rfl, ended HB (w4_below _ _ _ _ _) _ _⟩

set_option maxRecDepth 100000 in
theorem parse_T (s : ByteArray) (w : World) (tN : (s.toList == [110, 117, 108, 108]) = false) (tF : (s.toList == [102, 97, 108, 115, 101]) = false) (tT : (s.toList == [116, 114, 117, 101]) = true) :
    Calls Tryz.prog 142 #[.string s] w fun e w' => e = .returned (.tuple #[.agg #[.int .i64 2, .int .i64 1], .nilIface]) ∧ Below w.heap.size w w' := by
  have i0 : ∀ w, (Instr.index 174 (.agg #[.int .i64 0, .int .i64 0, .int .i64 2, .int .i64 0, .int .i64 2, .int .i64 1]) (.int .i64 0)).run Tryz.prog w = .ok (.agg #[.int .i64 0, .int .i64 0]) w := fun _ => by kernel_rfl
  have i1 : ∀ w, (Instr.index 174 (.agg #[.int .i64 0, .int .i64 0, .int .i64 2, .int .i64 0, .int .i64 2, .int .i64 1]) (.int .i64 1)).run Tryz.prog w = .ok (.agg #[.int .i64 2, .int .i64 0]) w := fun _ => by kernel_rfl
  have i2 : ∀ w, (Instr.index 174 (.agg #[.int .i64 0, .int .i64 0, .int .i64 2, .int .i64 0, .int .i64 2, .int .i64 1]) (.int .i64 2)).run Tryz.prog w = .ok (.agg #[.int .i64 2, .int .i64 1]) w := fun _ => by kernel_rfl
  have HB : Hid (Below ((((w.alloc (.cells #[.int .i64 0, .int .i64 0] 89)).alloc (.cells #[.int .i64 0, .int .i64 0] 89)).alloc (.cells #[.int .i64 2, .int .i64 0] 89)).alloc (.cells #[.int .i64 2, .int .i64 1] 89)).heap.size ((((w.alloc (.cells #[.int .i64 0, .int .i64 0] 89)).alloc (.cells #[.int .i64 0, .int .i64 0] 89)).alloc (.cells #[.int .i64 2, .int .i64 0] 89)).alloc (.cells #[.int .i64 2, .int .i64 1] 89)) ((((w.alloc (.cells #[.int .i64 0, .int .i64 0] 89)).alloc (.cells #[.int .i64 0, .int .i64 0] 89)).alloc (.cells #[.int .i64 2, .int .i64 0] 89)).alloc (.cells #[.int .i64 2, .int .i64 1] 89))) := Below.refl _ _
  go_enter Tryz.func142, Tryz.ntmps142
  go_wp2_with (first | (go_at_call 104; refine (null_any _).mono ?_; rintro e w' ⟨rfl, rfl⟩) | (go_at_call 108; refine (truth_any _ _).mono ?_; rintro e w' ⟨rfl, rfl⟩))
  go_loopw [13] (fun iv wr => ∃ j : Nat, j ≤ 2 ∧ iv = .int .i64 j ∧ Hid (Below ((((w.alloc (.cells #[.int .i64 0, .int .i64 0] 89)).alloc (.cells #[.int .i64 0, .int .i64 0] 89)).alloc (.cells #[.int .i64 2, .int .i64 0] 89)).alloc (.cells #[.int .i64 2, .int .i64 1] 89)).heap.size ((((w.alloc (.cells #[.int .i64 0, .int .i64 0] 89)).alloc (.cells #[.int .i64 0, .int .i64 0] 89)).alloc (.cells #[.int .i64 2, .int .i64 0] 89)).alloc (.cells #[.int .i64 2, .int .i64 1] 89)) wr)) (fun iv _ => 3 - (intOf iv).toNat)
  case atStart => exact ⟨0, by omega, rfl, HB⟩
  case round =>
    clear HB
    obtain ⟨j, hj, rfl, HB⟩ := hrel
    obtain ⟨hc, hf⟩ := rules HB
    have jj : j = 0 ∨ j = 1 ∨ j = 2 := by omega
    clear hj
    rcases jj with rfl | rfl | rfl
    · go_wp2_with (go_at_call 91; refine (text_N _).mono ?_; rintro e w1 ⟨rfl, hb⟩; have HB := nxt2 HB hb; obtain ⟨hc, hf⟩ := rules HB; obtain ⟨ic, jf⟩ := bcell hb; clear hb)
      go_roundw
      case rel => exact ⟨1, by omega, rfl, HB⟩
      case measure => simp [intOf]
    · go_wp2_with (go_at_call 91; refine (text_F _).mono ?_; rintro e w1 ⟨rfl, hb⟩; have HB := nxt2 HB hb; obtain ⟨hc, hf⟩ := rules HB; obtain ⟨ic, jf⟩ := bcell hb; clear hb)
      go_roundw
      case rel => exact ⟨2, by omega, rfl, HB⟩
      case measure => simp [intOf]
    · go_wp2_with (go_at_call 91; refine (text_T _).mono ?_; rintro e w1 ⟨rfl, hb⟩; have HB := nxt2 HB hb; obtain ⟨hc, hf⟩ := rules HB; obtain ⟨ic, jf⟩ := bcell hb; clear hb)
      have y0 : w1.cell? ⟨w.heap.size, 0, none⟩ = some (.int .i64 0) := by rw [hc _ _ (by simp only [World.size_alloc]; omega)]; go_simp
      have y1 : w1.cell? ⟨w.heap.size, 1, none⟩ = some (.int .i64 0) := by rw [hc _ _ (by simp only [World.size_alloc]; omega)]; go_simp
      exact bodyPost_ret (v := .tuple #[.agg #[.int .i64 2, .int .i64 1], .nilIface]) (by simp [results, Tryz.results142, go_sem, y0, y1]) rfl ⟨rfl, ended HB (w4_below _ _ _ _ _) _ _⟩

set_option maxRecDepth 100000 in
theorem parse_num (s : ByteArray) (w : World) (ht : Tabs w) (tN : (s.toList == [110, 117, 108, 108]) = false) (tF : (s.toList == [102, 97, 108, 115, 101]) = false) (tT : (s.toList == [116, 114, 117, 101]) = false) (hs : s.size ≤ 281474976710656) (v : Int) (hv : Lib.atoiAll s.data.toList = .ok v) (b0 : -1000000000 ≤ v) (b1 : v ≤ 1000000000) (he : s.data.toList = Lib.itoa v) :
    Calls Tryz.prog 142 #[.string s] w fun e w' => e = .returned (.tuple #[.agg #[.int .i64 1, .int .i64 v], .nilIface]) ∧ Below w.heap.size w w' := by
  have HT0 : Hid (Tabs w) := ht
  clear ht
  have HV := hidT hv
  have HBd := hidT (And.intro b0 b1)
  have HK := hidT (num_in v b0 b1)
  have HS := hidT he
  clear hv b0 b1 he
  have i0 : ∀ w, (Instr.index 174 (.agg #[.int .i64 0, .int .i64 0, .int .i64 2, .int .i64 0, .int .i64 2, .int .i64 1]) (.int .i64 0)).run Tryz.prog w = .ok (.agg #[.int .i64 0, .int .i64 0]) w := fun _ => by kernel_rfl
  have i1 : ∀ w, (Instr.index 174 (.agg #[.int .i64 0, .int .i64 0, .int .i64 2, .int .i64 0, .int .i64 2, .int .i64 1]) (.int .i64 1)).run Tryz.prog w = .ok (.agg #[.int .i64 2, .int .i64 0]) w := fun _ => by kernel_rfl
  have i2 : ∀ w, (Instr.index 174 (.agg #[.int .i64 0, .int .i64 0, .int .i64 2, .int .i64 0, .int .i64 2, .int .i64 1]) (.int .i64 2)).run Tryz.prog w = .ok (.agg #[.int .i64 2, .int .i64 1]) w := fun _ => by kernel_rfl
  have HB : Hid (Below ((((w.alloc (.cells #[.int .i64 0, .int .i64 0] 89)).alloc (.cells #[.int .i64 0, .int .i64 0] 89)).alloc (.cells #[.int .i64 2, .int .i64 0] 89)).alloc (.cells #[.int .i64 2, .int .i64 1] 89)).heap.size ((((w.alloc (.cells #[.int .i64 0, .int .i64 0] 89)).alloc (.cells #[.int .i64 0, .int .i64 0] 89)).alloc (.cells #[.int .i64 2, .int .i64 0] 89)).alloc (.cells #[.int .i64 2, .int .i64 1] 89)) ((((w.alloc (.cells #[.int .i64 0, .int .i64 0] 89)).alloc (.cells #[.int .i64 0, .int .i64 0] 89)).alloc (.cells #[.int .i64 2, .int .i64 0] 89)).alloc (.cells #[.int .i64 2, .int .i64 1] 89))) := Below.refl _ _
  go_enter Tryz.func142, Tryz.ntmps142
  go_wp2_with (first | (go_at_call 104; refine (null_any _).mono ?_; rintro e w' ⟨rfl, rfl⟩) | (go_at_call 108; refine (truth_any _ _).mono ?_; rintro e w' ⟨rfl, rfl⟩))
  go_loopw [13] (fun iv wr => ∃ j : Nat, j ≤ 3 ∧ iv = .int .i64 j ∧ Hid (Below ((((w.alloc (.cells #[.int .i64 0, .int .i64 0] 89)).alloc (.cells #[.int .i64 0, .int .i64 0] 89)).alloc (.cells #[.int .i64 2, .int .i64 0] 89)).alloc (.cells #[.int .i64 2, .int .i64 1] 89)).heap.size ((((w.alloc (.cells #[.int .i64 0, .int .i64 0] 89)).alloc (.cells #[.int .i64 0, .int .i64 0] 89)).alloc (.cells #[.int .i64 2, .int .i64 0] 89)).alloc (.cells #[.int .i64 2, .int .i64 1] 89)) wr)) (fun iv _ => 3 - (intOf iv).toNat)
  case atStart => exact ⟨0, by omega, rfl, HB⟩
  case round =>
    clear HB
    obtain ⟨j, hj, rfl, HB⟩ := hrel
    obtain ⟨hc, hf⟩ := rules HB
    have jj : j = 0 ∨ j = 1 ∨ j = 2 ∨ j = 3 := by omega
    clear hj
    rcases jj with rfl | rfl | rfl | rfl
    · go_wp2_with (go_at_call 91; refine (text_N _).mono ?_; rintro e w1 ⟨rfl, hb⟩; have HB := nxt2 HB hb; obtain ⟨hc, hf⟩ := rules HB; obtain ⟨ic, jf⟩ := bcell hb; clear hb)
      go_roundw
      case rel => exact ⟨1, by omega, rfl, HB⟩
      case measure => simp [intOf]
    · go_wp2_with (go_at_call 91; refine (text_F _).mono ?_; rintro e w1 ⟨rfl, hb⟩; have HB := nxt2 HB hb; obtain ⟨hc, hf⟩ := rules HB; obtain ⟨ic, jf⟩ := bcell hb; clear hb)
      go_roundw
      case rel => exact ⟨2, by omega, rfl, HB⟩
      case measure => simp [intOf]
    · go_wp2_with (go_at_call 91; refine (text_T _).mono ?_; rintro e w1 ⟨rfl, hb⟩; have HB := nxt2 HB hb; obtain ⟨hc, hf⟩ := rules HB; obtain ⟨ic, jf⟩ := bcell hb; clear hb)
      go_roundw
      case rel => exact ⟨3, by omega, rfl, HB⟩
      case measure => simp [intOf]
    · have HT := hidT (HT0.out.below ((w4_below _ _ _ _ _).trans (HB.out.mono (by simp only [World.size_alloc]; omega))))
      go_wp2_with fail
      refine (atoi_any s v _ (by omega) HV.out).mono ?_
      rintro e w3 ⟨rfl, ha⟩
      have HA := hidT ha
      clear ha
      have HT := hidT (HT.out.below HA.out)
      have HB := nxt HB HA.out
      obtain ⟨hc, hf⟩ := rules HB
      go_wp2_with fail
      refine (number_any _ _).mono ?_
      rw [HK.out.1, HK.out.2]
      rintro e w4 ⟨rfl, hm⟩
      have HM := hidT hm
      clear hm
      have HT := hidT (HT.out.below HM.out)
      have HB := nxt HB HM.out
      obtain ⟨hc, hf⟩ := rules HB
      go_wp2_with fail
      have HT := hidT (HT.out.below ((Below.refl w4.heap.size w4).alloc (Nat.le_refl _) (.cells #[.int .i64 1, .int .i64 v] 89)))
      refine (text_is s v _ HBd.out.1 HBd.out.2 HS.out HT.out).mono ?_
      rintro e w5 ⟨rfl, hb⟩
      have HB := nxt2 HB hb
      obtain ⟨hc, hf⟩ := rules HB
      obtain ⟨ic, jf⟩ := bcell hb
      clear hb
      go_wp2_with fail
      have y0 : w5.cell? ⟨w.heap.size, 0, none⟩ = some (.int .i64 0) := by rw [hc _ _ (by simp only [World.size_alloc]; omega)]; go_simp
      have y1 : w5.cell? ⟨w.heap.size, 1, none⟩ = some (.int .i64 0) := by rw [hc _ _ (by simp only [World.size_alloc]; omega)]; go_simp
      exact bodyPost_ret (v := .tuple #[.agg #[.int .i64 1, .int .i64 v], .nilIface]) (by simp [results, Tryz.results142, go_sem, y0, y1]) rfl ⟨rfl, ended HB (w4_below _ _ _ _ _) _ _⟩

end Go.Proofs.YteaanpdckkmjoaaGreatDoor

/- The contract of penstockref.ValueOf, over this seat's translation: what a text is read as. Conditions: a text of at most 50 bytes. -/
import Derived.Test.YticgfdcgobdlmaaDoorRefNat
import Derived.Test.YticgfdcgobdlmaaDoorRefDo
namespace Go.Proofs.YticgfdcgobdlmaaDoor
open Go.RowKit
set_option linter.unusedVariables false
set_option linter.unusedSimpArgs false
attribute [local go_sem ↓] eql_value neq_value

theorem ext_list (s : ByteArray) : (s.extract 1 s.size).data.toList = s.data.toList.drop 1 := by
  rw [ByteArray.data_extract, Array.toList_extract]
  simp only [List.extract]
  exact List.take_of_length_le (by simp)

theorem ext_size (s : ByteArray) (h : 0 < s.size) : (s.extract 1 s.size).size = s.size - 1 := by
  rw [ByteArray.size_extract]
  omega

theorem of_null (s : ByteArray) (w : World) (tN : (s.toList == [110, 117, 108, 108]) = true) :
    Calls Tryd.prog 18 #[.string s] w fun e w' => e = .returned (.tuple #[.agg #[.int .i64 0, .int .i64 0], .int .i64 0]) ∧ Below w.heap.size w w' := by
  go_enter Tryd.func18, Tryd.ntmps18
  go_wp2_with (fail)
  refine bodyPost_ret (v := .tuple #[.agg #[.int .i64 0, .int .i64 0], .int .i64 0]) (by simp [results, Tryd.results18, go_sem]) rfl ⟨rfl, ?_⟩
  repeat (first | exact Below.refl _ _ | refine Below.alloc ?_ (by simp <;> omega) _ | refine Below.setCell ?_ (by simp <;> omega) _)

theorem of_true (s : ByteArray) (w : World) (tN : (s.toList == [110, 117, 108, 108]) = false) (tT : (s.toList == [116, 114, 117, 101]) = true) :
    Calls Tryd.prog 18 #[.string s] w fun e w' => e = .returned (.tuple #[.agg #[.int .i64 2, .int .i64 1], .int .i64 0]) ∧ Below w.heap.size w w' := by
  go_enter Tryd.func18, Tryd.ntmps18
  go_wp2_with (go_at_call 14; refine (rtruth_T _).mono ?_; rintro e w' ⟨rfl, rfl⟩)
  refine bodyPost_ret (v := .tuple #[.agg #[.int .i64 2, .int .i64 1], .int .i64 0]) (by simp [results, Tryd.results18, go_sem]) rfl ⟨rfl, ?_⟩
  repeat (first | exact Below.refl _ _ | refine Below.alloc ?_ (by simp <;> omega) _ | refine Below.setCell ?_ (by simp <;> omega) _)

theorem of_false (s : ByteArray) (w : World) (tN : (s.toList == [110, 117, 108, 108]) = false) (tT : (s.toList == [116, 114, 117, 101]) = false) (tF : (s.toList == [102, 97, 108, 115, 101]) = true) :
    Calls Tryd.prog 18 #[.string s] w fun e w' => e = .returned (.tuple #[.agg #[.int .i64 2, .int .i64 0], .int .i64 0]) ∧ Below w.heap.size w w' := by
  go_enter Tryd.func18, Tryd.ntmps18
  go_wp2_with (go_at_call 14; refine (rtruth_F _).mono ?_; rintro e w' ⟨rfl, rfl⟩)
  refine bodyPost_ret (v := .tuple #[.agg #[.int .i64 2, .int .i64 0], .int .i64 0]) (by simp [results, Tryd.results18, go_sem]) rfl ⟨rfl, ?_⟩
  repeat (first | exact Below.refl _ _ | refine Below.alloc ?_ (by simp <;> omega) _ | refine Below.setCell ?_ (by simp <;> omega) _)

theorem of_mbad (s : ByteArray) (w : World) (tN : (s.toList == [110, 117, 108, 108]) = false) (tT : (s.toList == [116, 114, 117, 101]) = false) (tF : (s.toList == [102, 97, 108, 115, 101]) = false) (hs : s.size ≤ 50) (h1 : (1 : Int) < (s.size : Int)) (hm : ∀ h : 0 < s.size, ((s[0].toNat : Int) == 45) = true) (q : Int) (hq : natR (s.data.toList.drop 1) = q) (hn : q < 0) :
    Calls Tryd.prog 18 #[.string s] w fun e w' => e = .returned (.tuple #[.agg #[.int .i64 0, .int .i64 0], .int .i64 4]) ∧ Below w.heap.size w w' := by
  have h0 : 0 < s.size := by omega
  have hm := hm h0
  have HN := hidT (fun w => natural_any (s.extract 1 s.size) w (by rw [ext_size s h0]; omega))
  rw [ext_list s, hq] at HN
  have hz := ext_size s h0
  have hx : ((s.extract 1 s.size).size : Int) < (s.size : Int) := by omega
  clear hq hz
  go_enter Tryd.func18, Tryd.ntmps18
  go_wp2_with (first | (go_at_call 31; refine (HN.out _).mono ?_; rintro e w' ⟨rfl, rfl⟩) | (go_at_call 12; refine (rnum_x _ _).mono ?_; rintro e w' ⟨rfl, rfl⟩))
  refine bodyPost_ret (v := .tuple #[.agg #[.int .i64 0, .int .i64 0], .int .i64 4]) (by simp [results, Tryd.results18, go_sem]) rfl ⟨rfl, ?_⟩
  repeat (first | exact Below.refl _ _ | refine Below.alloc ?_ (by simp <;> omega) _ | refine Below.setCell ?_ (by simp <;> omega) _)

theorem of_mzero (s : ByteArray) (w : World) (tN : (s.toList == [110, 117, 108, 108]) = false) (tT : (s.toList == [116, 114, 117, 101]) = false) (tF : (s.toList == [102, 97, 108, 115, 101]) = false) (hs : s.size ≤ 50) (h1 : (1 : Int) < (s.size : Int)) (hm : ∀ h : 0 < s.size, ((s[0].toNat : Int) == 45) = true) (q : Int) (hq : natR (s.data.toList.drop 1) = q) (hn : q = 0) :
    Calls Tryd.prog 18 #[.string s] w fun e w' => e = .returned (.tuple #[.agg #[.int .i64 0, .int .i64 0], .int .i64 4]) ∧ Below w.heap.size w w' := by
  subst hn
  have h0 : 0 < s.size := by omega
  have hm := hm h0
  have HN := hidT (fun w => natural_any (s.extract 1 s.size) w (by rw [ext_size s h0]; omega))
  rw [ext_list s, hq] at HN
  have hz := ext_size s h0
  have hx : ((s.extract 1 s.size).size : Int) < (s.size : Int) := by omega
  clear hq hz
  go_enter Tryd.func18, Tryd.ntmps18
  go_wp2_with (first | (go_at_call 31; refine (HN.out _).mono ?_; rintro e w' ⟨rfl, rfl⟩) | (go_at_call 12; refine (rnum_x _ _).mono ?_; rintro e w' ⟨rfl, rfl⟩))
  refine bodyPost_ret (v := .tuple #[.agg #[.int .i64 0, .int .i64 0], .int .i64 4]) (by simp [results, Tryd.results18, go_sem]) rfl ⟨rfl, ?_⟩
  repeat (first | exact Below.refl _ _ | refine Below.alloc ?_ (by simp <;> omega) _ | refine Below.setCell ?_ (by simp <;> omega) _)

theorem of_mnum (s : ByteArray) (w : World) (tN : (s.toList == [110, 117, 108, 108]) = false) (tT : (s.toList == [116, 114, 117, 101]) = false) (tF : (s.toList == [102, 97, 108, 115, 101]) = false) (hs : s.size ≤ 50) (h1 : (1 : Int) < (s.size : Int)) (hm : ∀ h : 0 < s.size, ((s[0].toNat : Int) == 45) = true) (q : Int) (hq : natR (s.data.toList.drop 1) = q) (hn : 0 < q) (hb : q ≤ 1000000000) :
    Calls Tryd.prog 18 #[.string s] w fun e w' => e = .returned (.tuple #[.agg #[.int .i64 (numK (-q)), .int .i64 (numN (-q))], .int .i64 0]) ∧ Below w.heap.size w w' := by
  have hz0 : (q == 0) = false := by simp; omega
  have h0 : 0 < s.size := by omega
  have hm := hm h0
  have HN := hidT (fun w => natural_any (s.extract 1 s.size) w (by rw [ext_size s h0]; omega))
  rw [ext_list s, hq] at HN
  have hz := ext_size s h0
  have hx : ((s.extract 1 s.size).size : Int) < (s.size : Int) := by omega
  clear hq hz
  go_enter Tryd.func18, Tryd.ntmps18
  go_wp2_with (first | (go_at_call 31; refine (HN.out _).mono ?_; rintro e w' ⟨rfl, rfl⟩) | (go_at_call 12; refine (rnum_x _ _).mono ?_; rintro e w' ⟨rfl, rfl⟩))
  refine bodyPost_ret (v := .tuple #[.agg #[.int .i64 (numK (-q)), .int .i64 (numN (-q))], .int .i64 0]) (by simp [results, Tryd.results18, go_sem]) rfl ⟨rfl, ?_⟩
  repeat (first | exact Below.refl _ _ | refine Below.alloc ?_ (by simp <;> omega) _ | refine Below.setCell ?_ (by simp <;> omega) _)

theorem of_pbad1 (s : ByteArray) (w : World) (tN : (s.toList == [110, 117, 108, 108]) = false) (tT : (s.toList == [116, 114, 117, 101]) = false) (tF : (s.toList == [102, 97, 108, 115, 101]) = false) (hs : s.size ≤ 50) (h1 : (s.size : Int) ≤ 1) (q : Int) (hq : natR s.data.toList = q) (hn : q < 0) :
    Calls Tryd.prog 18 #[.string s] w fun e w' => e = .returned (.tuple #[.agg #[.int .i64 0, .int .i64 0], .int .i64 4]) ∧ Below w.heap.size w w' := by
  have HN := hidT (fun w => natural_any s w hs)
  rw [hq] at HN
  clear hq
  go_enter Tryd.func18, Tryd.ntmps18
  go_wp2_with (first | (go_at_call 31; refine (HN.out _).mono ?_; rintro e w' ⟨rfl, rfl⟩) | (go_at_call 12; refine (rnum_x _ _).mono ?_; rintro e w' ⟨rfl, rfl⟩))
  refine bodyPost_ret (v := .tuple #[.agg #[.int .i64 0, .int .i64 0], .int .i64 4]) (by simp [results, Tryd.results18, go_sem]) rfl ⟨rfl, ?_⟩
  repeat (first | exact Below.refl _ _ | refine Below.alloc ?_ (by simp <;> omega) _ | refine Below.setCell ?_ (by simp <;> omega) _)

theorem of_pbad2 (s : ByteArray) (w : World) (tN : (s.toList == [110, 117, 108, 108]) = false) (tT : (s.toList == [116, 114, 117, 101]) = false) (tF : (s.toList == [102, 97, 108, 115, 101]) = false) (hs : s.size ≤ 50) (h1 : (1 : Int) < (s.size : Int)) (hm : ∀ h : 0 < s.size, ((s[0].toNat : Int) == 45) = false) (q : Int) (hq : natR s.data.toList = q) (hn : q < 0) :
    Calls Tryd.prog 18 #[.string s] w fun e w' => e = .returned (.tuple #[.agg #[.int .i64 0, .int .i64 0], .int .i64 4]) ∧ Below w.heap.size w w' := by
  have h0 : 0 < s.size := by omega
  have hm := hm h0
  have HN := hidT (fun w => natural_any s w hs)
  rw [hq] at HN
  clear hq
  go_enter Tryd.func18, Tryd.ntmps18
  go_wp2_with (first | (go_at_call 31; refine (HN.out _).mono ?_; rintro e w' ⟨rfl, rfl⟩) | (go_at_call 12; refine (rnum_x _ _).mono ?_; rintro e w' ⟨rfl, rfl⟩))
  refine bodyPost_ret (v := .tuple #[.agg #[.int .i64 0, .int .i64 0], .int .i64 4]) (by simp [results, Tryd.results18, go_sem]) rfl ⟨rfl, ?_⟩
  repeat (first | exact Below.refl _ _ | refine Below.alloc ?_ (by simp <;> omega) _ | refine Below.setCell ?_ (by simp <;> omega) _)

theorem of_pnum1 (s : ByteArray) (w : World) (tN : (s.toList == [110, 117, 108, 108]) = false) (tT : (s.toList == [116, 114, 117, 101]) = false) (tF : (s.toList == [102, 97, 108, 115, 101]) = false) (hs : s.size ≤ 50) (h1 : (s.size : Int) ≤ 1) (q : Int) (hq : natR s.data.toList = q) (hn : 0 ≤ q) (hb : q ≤ 1000000000) :
    Calls Tryd.prog 18 #[.string s] w fun e w' => e = .returned (.tuple #[.agg #[.int .i64 (numK q), .int .i64 (numN q)], .int .i64 0]) ∧ Below w.heap.size w w' := by
  have HN := hidT (fun w => natural_any s w hs)
  rw [hq] at HN
  clear hq
  go_enter Tryd.func18, Tryd.ntmps18
  go_wp2_with (first | (go_at_call 31; refine (HN.out _).mono ?_; rintro e w' ⟨rfl, rfl⟩) | (go_at_call 12; refine (rnum_x _ _).mono ?_; rintro e w' ⟨rfl, rfl⟩))
  refine bodyPost_ret (v := .tuple #[.agg #[.int .i64 (numK q), .int .i64 (numN q)], .int .i64 0]) (by simp [results, Tryd.results18, go_sem]) rfl ⟨rfl, ?_⟩
  repeat (first | exact Below.refl _ _ | refine Below.alloc ?_ (by simp <;> omega) _ | refine Below.setCell ?_ (by simp <;> omega) _)

theorem of_pnum2 (s : ByteArray) (w : World) (tN : (s.toList == [110, 117, 108, 108]) = false) (tT : (s.toList == [116, 114, 117, 101]) = false) (tF : (s.toList == [102, 97, 108, 115, 101]) = false) (hs : s.size ≤ 50) (h1 : (1 : Int) < (s.size : Int)) (hm : ∀ h : 0 < s.size, ((s[0].toNat : Int) == 45) = false) (q : Int) (hq : natR s.data.toList = q) (hn : 0 ≤ q) (hb : q ≤ 1000000000) :
    Calls Tryd.prog 18 #[.string s] w fun e w' => e = .returned (.tuple #[.agg #[.int .i64 (numK q), .int .i64 (numN q)], .int .i64 0]) ∧ Below w.heap.size w w' := by
  have h0 : 0 < s.size := by omega
  have hm := hm h0
  have HN := hidT (fun w => natural_any s w hs)
  rw [hq] at HN
  clear hq
  go_enter Tryd.func18, Tryd.ntmps18
  go_wp2_with (first | (go_at_call 31; refine (HN.out _).mono ?_; rintro e w' ⟨rfl, rfl⟩) | (go_at_call 12; refine (rnum_x _ _).mono ?_; rintro e w' ⟨rfl, rfl⟩))
  refine bodyPost_ret (v := .tuple #[.agg #[.int .i64 (numK q), .int .i64 (numN q)], .int .i64 0]) (by simp [results, Tryd.results18, go_sem]) rfl ⟨rfl, ?_⟩
  repeat (first | exact Below.refl _ _ | refine Below.alloc ?_ (by simp <;> omega) _ | refine Below.setCell ?_ (by simp <;> omega) _)

/-- what a text is read as: by the reference -/
def ofV (l : List UInt8) : Int × Int × Int :=
  if l = [110, 117, 108, 108] then (0, 0, 0) else if l = [116, 114, 117, 101] then (2, 1, 0) else if l = [102, 97, 108, 115, 101] then (2, 0, 0) else
  match refV l with | some v => (numK v, numN v, 0) | none => (0, 0, 4)

theorem of_any (s : ByteArray) (w : World) (hs : s.size ≤ 50) :
    Calls Tryd.prog 18 #[.string s] w fun e w' => e = .returned (.tuple #[.agg #[.int .i64 (ofV s.data.toList).1, .int .i64 (ofV s.data.toList).2.1], .int .i64 (ofV s.data.toList).2.2]) ∧ Below w.heap.size w w' := by
  have hl : s.data.toList.length = s.size := by simp
  unfold ofV
  by_cases tN : s.data.toList = [110, 117, 108, 108]
  · rw [if_pos tN]; exact of_null s w (by rw [Lib.toList_data, tN]; rfl)
  · have tN' : (s.toList == [110, 117, 108, 108]) = false := by rw [Lib.toList_data]; exact beq_eq_false_iff_ne.2 tN
    rw [if_neg tN]
    by_cases tT : s.data.toList = [116, 114, 117, 101]
    · rw [if_pos tT]; exact of_true s w tN' (by rw [Lib.toList_data, tT]; rfl)
    · have tT' : (s.toList == [116, 114, 117, 101]) = false := by rw [Lib.toList_data]; exact beq_eq_false_iff_ne.2 tT
      rw [if_neg tT]
      by_cases tF : s.data.toList = [102, 97, 108, 115, 101]
      · rw [if_pos tF]; exact of_false s w tN' tT' (by rw [Lib.toList_data, tF]; rfl)
      · have tF' : (s.toList == [102, 97, 108, 115, 101]) = false := by rw [Lib.toList_data]; exact beq_eq_false_iff_ne.2 tF
        rw [if_neg tF]
        by_cases hm : 1 < s.data.toList.length ∧ (s.data.toList.getD 0 0).toNat = 45
        · have hm' : ∀ h : 0 < s.size, ((s[0].toNat : Int) == 45) = true := fun h => by rw [bt_get s 0 h, hm.2]; rfl
          have h1 : (1 : Int) < (s.size : Int) := by omega
          have hd : (s.data.toList.drop 1).length < s.data.toList.length := by simp; omega
          unfold refV
          simp only [if_pos hm]
          generalize hq : natR (s.data.toList.drop 1) = q
          have hb := fun h => (natR_some (s.data.toList.drop 1) h).2
          rw [hq] at hb
          by_cases c1 : q < 0
          · rw [if_pos (Or.inl c1)]; exact of_mbad s w tN' tT' tF' hs h1 hm' q hq c1
          · by_cases c2 : q = 0
            · rw [if_pos (Or.inr ⟨hd, c2⟩)]; exact of_mzero s w tN' tT' tF' hs h1 hm' q hq c2
            · rw [if_neg (by omega), if_pos hd]; exact of_mnum s w tN' tT' tF' hs h1 hm' q hq (by omega) (hb (by omega))
        · unfold refV
          simp only [if_neg hm]
          generalize hq : natR s.data.toList = q
          have hb := fun h => (natR_some s.data.toList h).2
          rw [hq] at hb
          by_cases h1 : (s.size : Int) ≤ 1
          · by_cases c1 : q < 0
            · rw [if_pos (Or.inl c1)]; exact of_pbad1 s w tN' tT' tF' hs h1 q hq c1
            · rw [if_neg (by omega), if_neg (by omega)]; exact of_pnum1 s w tN' tT' tF' hs h1 q hq (by omega) (hb (by omega))
          · have hm' : ∀ h : 0 < s.size, ((s[0].toNat : Int) == 45) = false := fun h => by
              rw [bt_get s 0 h]
              apply beq_eq_false_iff_ne.2
              intro e
              exact hm ⟨by omega, by omega⟩
            by_cases c1 : q < 0
            · rw [if_pos (Or.inl c1)]; exact of_pbad2 s w tN' tT' tF' hs (by omega) hm' q hq c1
            · rw [if_neg (by omega), if_neg (by omega)]; exact of_pnum2 s w tN' tT' tF' hs (by omega) hm' q hq (by omega) (hb (by omega))
end Go.Proofs.YticgfdcgobdlmaaDoor

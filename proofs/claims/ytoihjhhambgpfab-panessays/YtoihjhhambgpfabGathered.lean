/- The contract of the document's Gathered, over this seat's translation. Conditions: few values, and a kind from 1 to 5. -/
import Derived.Test.YtoihjhhambgpfabGather2
namespace Go.Proofs.Ytoihjhhambgpfab
open Go.ChangeShapes Go.WideShapes Go.ChangeAt Go.RowKit
set_option linter.unusedVariables false
set_option linter.unusedSimpArgs false
attribute [local go_sem ↓] eql_value neq_value

def rval (k : Int) (a : Int × Int × Int) : Int × Int :=
  if k < 3 then (numK a.1, numN a.1) else if a.1 = 0 then (0, 0) else if k = 3 then (numK a.2.1, numN a.2.1) else (numK a.2.2, numN a.2.2)

theorem gval_is (k : Int) (k1 : 1 ≤ k) (k5 : k ≤ 5) (l : List V2) : gval k (gfold k l) = rval k (rfold k l) := by
  obtain ⟨h0, h1, h2, h3, h4⟩ := rel_fold k k1 k5 l
  unfold gval rval
  by_cases c : k < 3
  · rw [if_pos (by omega), if_pos c, h1 (by omega)]
  · rw [if_neg (by omega), if_neg c]
    have := h2 (by omega)
    by_cases z : (rfold k l).1 = 0
    · rw [if_pos (this.2 z), if_pos z]
    · rw [if_neg (fun e => z (this.1 e)), if_neg z]
      by_cases c3 : k = 3
      · rw [if_pos c3, if_pos c3, h3 c3]
      · rw [if_neg c3, if_neg c3, h4 (by omega) z]

theorem good_any (k n : Int) (w : World) :
    Calls Try.prog 24 #[.agg #[.int .i64 k, .int .i64 n]] w fun e w' => e = .returned (.bool (vok k n)) ∧ Below w.heap.size w w' := by
  cases h : vok k n
  · go_enter Try.func24, Try.ntmps24
    go_wp2_with fail
    refine (fault_no k n _ h).mono ?_
    rintro e w1 ⟨rfl, hb⟩
    have HB := hidE hb
    clear hb
    go_wp2_with fail
    go_ret
    exact ⟨rfl, done ((Below.refl _ _).alloc (Nat.le_refl _) _) HB⟩
  · go_enter Try.func24, Try.ntmps24
    go_wp2_with fail
    refine (fault_yes k n _ h).mono ?_
    rintro e w1 ⟨rfl, hb⟩
    have HB := hidE hb
    clear hb
    go_wp2_with fail
    go_ret
    exact ⟨rfl, done ((Below.refl _ _).alloc (Nat.le_refl _) _) HB⟩

set_option maxRecDepth 100000 in
set_option maxHeartbeats 2000000 in
theorem gathered_any (k : Int) (l : List V2) (u : Value) (w : World) (hl : l.length ≤ 60) (hu : RowG w u 2 l.length (rowV l)) (c1 : 1 ≤ k) (c2 : k ≤ 5) :
    Calls Try.prog 26 #[.int .i64 k, u] w fun e w' => e = .returned (.agg #[.int .i64 (rval k (rfold k l)).1, .int .i64 (rval k (rfold k l)).2]) ∧ Below w.heap.size w w' := by
  obtain ⟨ao, cap, rfl⟩ := rowG_shape hu
  have HU := hidE hu
  clear hu
  have H1 : Hid (Below w.heap.size w (w.alloc (.cells #[.int .i64 0, .int .i64 0] 59))) := (Below.refl _ _).alloc (Nat.le_refl _) _
  generalize hT : rval k (rfold k l) = T
  obtain ⟨t1, t2⟩ := T
  have HX := hidE hT
  clear hT
  simp only
  go_enter Try.func26, Try.ntmps26
  go_wp2_with fail
  go_loopw [5, 6, 7, 8] (fun n s b i wr => ∃ m : Nat, m ≤ l.length ∧ i = .int .i64 m ∧ n = .int .i64 (rfold k (l.take m)).1 ∧ s = .int .i64 (rfold k (l.take m)).2.1 ∧ b = .int .i64 (rfold k (l.take m)).2.2 ∧ Hid (Below (w.alloc (.cells #[.int .i64 0, .int .i64 0] 59)).heap.size (w.alloc (.cells #[.int .i64 0, .int .i64 0] 59)) wr)) (fun _ _ _ i _ => l.length - (intOf i).toNat)
  case atStart => exact ⟨0, Nat.zero_le _, rfl, rfl, rfl, rfl, Below.refl _ _⟩
  case round =>
    obtain ⟨m, hm, rfl, rfl, rfl, rfl, HB⟩ := hrel
    by_cases hlt : m < l.length
    · obtain ⟨g, off, rfl, e1, e2, q1, q2, q3⟩ := rowV_in HU.out (H1.out.trans (HB.out.mono H1.out.size)) m hlt
      have HT : Hid (rfold k (l.take (m + 1)) = rstep k (rfold k (l.take m)) l[m]) := by
        show _ = _
        rw [← rfold_snoc, List.take_add_one, List.getElem?_eq_getElem hlt]; rfl
      obtain ⟨na1, na2⟩ := rfold_n k (l.take m)
      have lt1 : (l.take m).length ≤ 60 := by simp; omega
      have na3 : (rfold k (l.take m)).1 ≤ 60 := by omega
      have hgr : g < wr.heap.size := by have := HB.out.size; simp at this; omega
      clear na2 lt1
      generalize rfold k (l.take m) = X at *
      generalize l[m] = vv at *
      obtain ⟨v1, v2⟩ := vv
      obtain ⟨x1, x2, x3⟩ := X
      simp only at e1 e2 na1 na3 HT
      unfold maxLen at q2
      clear HX
      rcases (by omega : k = 1 ∨ k = 2 ∨ k = 3 ∨ k = 4 ∨ k = 5) with rfl | rfl | rfl | rfl | rfl
      · clear c1 c2
        by_cases hn : x1 = 0
        · subst hn
          have e : rstep 1 (0, x2, x3) (v1, v2) = (1, RowKit.wrap64 (x2 + v2), v2) := by simp [rstep]
          rw [e] at HT
          clear e
          go_wp2_with fail
          go_roundw
          case rel => exact ⟨m + 1, by omega, by go_num, by rw [HT.out], by rw [HT.out], by rw [HT.out], by first | exact HB | exact nxta HB _⟩
          case measure => simp [intOf]; omega
        have hnb : (x1 == 0) = false := by simp [hn]
        have e : rstep 1 (x1, x2, x3) (v1, v2) = (x1 + 1, RowKit.wrap64 (x2 + v2), x3) := by simp [rstep, hn]
        rw [e] at HT
        clear e
        go_wp2_with fail
        go_roundw
        case rel => exact ⟨m + 1, by omega, by go_num, by rw [HT.out], by rw [HT.out], by rw [HT.out], by first | exact HB | exact nxta HB _⟩
        case measure => simp [intOf]; omega
      · clear c1 c2
        by_cases hv : v1 = 0
        · have hvb : (v1 == 0) = true := by simp [hv]
          have e : rstep 2 (x1, x2, x3) (v1, v2) = (x1, x2, x3) := by simp [rstep, hv]
          rw [e] at HT
          clear e
          go_wp2_with fail
          go_roundw
          case rel => exact ⟨m + 1, by omega, by go_num, by rw [HT.out], by rw [HT.out], by rw [HT.out], by first | exact HB | exact nxta HB _⟩
          case measure => simp [intOf]; omega
        have hvb : (v1 == 0) = false := by simp [hv]
        by_cases hn : x1 = 0
        · subst hn
          have e : rstep 2 (0, x2, x3) (v1, v2) = (1, RowKit.wrap64 (x2 + v2), v2) := by simp [rstep, hv]
          rw [e] at HT
          clear e
          go_wp2_with fail
          go_roundw
          case rel => exact ⟨m + 1, by omega, by go_num, by rw [HT.out], by rw [HT.out], by rw [HT.out], by first | exact HB | exact nxta HB _⟩
          case measure => simp [intOf]; omega
        have hnb : (x1 == 0) = false := by simp [hn]
        have e : rstep 2 (x1, x2, x3) (v1, v2) = (x1 + 1, RowKit.wrap64 (x2 + v2), x3) := by simp [rstep, hv, hn]
        rw [e] at HT
        clear e
        go_wp2_with fail
        go_roundw
        case rel => exact ⟨m + 1, by omega, by go_num, by rw [HT.out], by rw [HT.out], by rw [HT.out], by first | exact HB | exact nxta HB _⟩
        case measure => simp [intOf]; omega
      · clear c1 c2
        by_cases hv : v1 = 0
        · have hvb : (v1 == 0) = true := by simp [hv]
          have e : rstep 3 (x1, x2, x3) (v1, v2) = (x1, x2, x3) := by simp [rstep, hv]
          rw [e] at HT
          clear e
          go_wp2_with fail
          go_roundw
          case rel => exact ⟨m + 1, by omega, by go_num, by rw [HT.out], by rw [HT.out], by rw [HT.out], by first | exact HB | exact nxta HB _⟩
          case measure => simp [intOf]; omega
        have hvb : (v1 == 0) = false := by simp [hv]
        by_cases hn : x1 = 0
        · subst hn
          have e : rstep 3 (0, x2, x3) (v1, v2) = (1, RowKit.wrap64 (x2 + v2), v2) := by simp [rstep, hv]
          rw [e] at HT
          clear e
          go_wp2_with fail
          go_roundw
          case rel => exact ⟨m + 1, by omega, by go_num, by rw [HT.out], by rw [HT.out], by rw [HT.out], by first | exact HB | exact nxta HB _⟩
          case measure => simp [intOf]; omega
        have hnb : (x1 == 0) = false := by simp [hn]
        have e : rstep 3 (x1, x2, x3) (v1, v2) = (x1 + 1, RowKit.wrap64 (x2 + v2), x3) := by simp [rstep, hv, hn]
        rw [e] at HT
        clear e
        go_wp2_with fail
        go_roundw
        case rel => exact ⟨m + 1, by omega, by go_num, by rw [HT.out], by rw [HT.out], by rw [HT.out], by first | exact HB | exact nxta HB _⟩
        case measure => simp [intOf]; omega
      · clear c1 c2
        by_cases hv : v1 = 0
        · have hvb : (v1 == 0) = true := by simp [hv]
          have e : rstep 4 (x1, x2, x3) (v1, v2) = (x1, x2, x3) := by simp [rstep, hv]
          rw [e] at HT
          clear e
          go_wp2_with fail
          go_roundw
          case rel => exact ⟨m + 1, by omega, by go_num, by rw [HT.out], by rw [HT.out], by rw [HT.out], by first | exact HB | exact nxta HB _⟩
          case measure => simp [intOf]; omega
        have hvb : (v1 == 0) = false := by simp [hv]
        by_cases hn : x1 = 0
        · subst hn
          have e : rstep 4 (0, x2, x3) (v1, v2) = (1, RowKit.wrap64 (x2 + v2), v2) := by simp [rstep, hv]
          rw [e] at HT
          clear e
          go_wp2_with fail
          go_roundw
          case rel => exact ⟨m + 1, by omega, by go_num, by rw [HT.out], by rw [HT.out], by rw [HT.out], by first | exact HB | exact nxta HB _⟩
          case measure => simp [intOf]; omega
        have hnb : (x1 == 0) = false := by simp [hn]
        by_cases hc : v2 < x3
        · have hcb : decide (v2 < x3) = true := by simp [hc]
          have e : rstep 4 (x1, x2, x3) (v1, v2) = (x1 + 1, RowKit.wrap64 (x2 + v2), v2) := by simp [rstep, hv, hn, hc]
          rw [e] at HT
          clear e
          go_wp2_with fail
          go_roundw
          case rel => exact ⟨m + 1, by omega, by go_num, by rw [HT.out], by rw [HT.out], by rw [HT.out], by first | exact HB | exact nxta HB _⟩
          case measure => simp [intOf]; omega
        · have hcb : decide (v2 < x3) = false := by simp; omega
          have e : rstep 4 (x1, x2, x3) (v1, v2) = (x1 + 1, RowKit.wrap64 (x2 + v2), x3) := by simp [rstep, hv, hn, hc]
          rw [e] at HT
          clear e
          go_wp2_with fail
          go_roundw
          case rel => exact ⟨m + 1, by omega, by go_num, by rw [HT.out], by rw [HT.out], by rw [HT.out], by first | exact HB | exact nxta HB _⟩
          case measure => simp [intOf]; omega
      · clear c1 c2
        by_cases hv : v1 = 0
        · have hvb : (v1 == 0) = true := by simp [hv]
          have e : rstep 5 (x1, x2, x3) (v1, v2) = (x1, x2, x3) := by simp [rstep, hv]
          rw [e] at HT
          clear e
          go_wp2_with fail
          go_roundw
          case rel => exact ⟨m + 1, by omega, by go_num, by rw [HT.out], by rw [HT.out], by rw [HT.out], by first | exact HB | exact nxta HB _⟩
          case measure => simp [intOf]; omega
        have hvb : (v1 == 0) = false := by simp [hv]
        by_cases hn : x1 = 0
        · subst hn
          have e : rstep 5 (0, x2, x3) (v1, v2) = (1, RowKit.wrap64 (x2 + v2), v2) := by simp [rstep, hv]
          rw [e] at HT
          clear e
          go_wp2_with fail
          go_roundw
          case rel => exact ⟨m + 1, by omega, by go_num, by rw [HT.out], by rw [HT.out], by rw [HT.out], by first | exact HB | exact nxta HB _⟩
          case measure => simp [intOf]; omega
        have hnb : (x1 == 0) = false := by simp [hn]
        by_cases hc : x3 < v2
        · have hcb : decide (x3 < v2) = true := by simp [hc]
          have e : rstep 5 (x1, x2, x3) (v1, v2) = (x1 + 1, RowKit.wrap64 (x2 + v2), v2) := by simp [rstep, hv, hn, hc]
          rw [e] at HT
          clear e
          go_wp2_with fail
          go_roundw
          case rel => exact ⟨m + 1, by omega, by go_num, by rw [HT.out], by rw [HT.out], by rw [HT.out], by first | exact HB | exact nxta HB _⟩
          case measure => simp [intOf]; omega
        · have hcb : decide (x3 < v2) = false := by simp; omega
          have e : rstep 5 (x1, x2, x3) (v1, v2) = (x1 + 1, RowKit.wrap64 (x2 + v2), x3) := by simp [rstep, hv, hn, hc]
          rw [e] at HT
          clear e
          go_wp2_with fail
          go_roundw
          case rel => exact ⟨m + 1, by omega, by go_num, by rw [HT.out], by rw [HT.out], by rw [HT.out], by first | exact HB | exact nxta HB _⟩
          case measure => simp [intOf]; omega
    · have hml : m = l.length := by omega
      subst hml
      have e0 : l.take l.length = l := List.take_length
      rw [e0]
      have HT := HX
      clear e0 HX
      generalize rfold k l = X at *
      obtain ⟨x1, x2, x3⟩ := X
      simp only
      by_cases h3 : k < 3
      · have d3 : decide (k < 3) = true := by simp [h3]
        have e : rval k (x1, x2, x3) = (numK x1, numN x1) := by simp [rval, h3]
        rw [e] at HT
        clear e
        have N1 := hidE (rnum_any x1)
        generalize numK x1 = r1 at *
        generalize numN x1 = r2 at *
        have h1 := HT.out
        have Q8 : Hid (r1 = t1 ∧ r2 = t2) := by show _ ∧ _; simpa using h1
        clear h1 HT
        go_wp2_with fail
        refine (N1.out _).mono ?_
        rintro e wz ⟨rfl, hb⟩
        have HB := nxt HB hb
        clear hb
        obtain ⟨hc, hf⟩ := rules HB
        go_wp2_with fail
        exact bodyPost_ret (v := .agg #[.int .i64 r1, .int .i64 r2]) (by simp [results, Try.results26, go_sem, hc, hf]) rfl ⟨by rw [Q8.out.1, Q8.out.2], ended HB H1.out _ _⟩
      have d3 : decide (k < 3) = false := by simp; omega
      by_cases hn : x1 = 0
      · subst hn
        have h1 := HT.out
        obtain ⟨rfl, rfl⟩ : 0 = t1 ∧ 0 = t2 := by simpa [rval, h3] using h1
        clear h1 HT
        obtain ⟨hc, hf⟩ := rules HB
        go_wp2_with fail
        exact bodyPost_ret (v := .agg #[.int .i64 0, .int .i64 0]) (by simp [results, Try.results26, go_sem, hc, hf]) rfl ⟨rfl, ended HB H1.out _ _⟩
      have hnb : (x1 == 0) = false := by simp [hn]
      by_cases k3 : k = 3
      · have kb : (k == 3) = true := by simp [k3]
        have e : rval k (x1, x2, x3) = (numK x2, numN x2) := by simp [rval, h3, hn, k3]
        rw [e] at HT
        clear e
        have N1 := hidE (rnum_any x2)
        generalize numK x2 = r1 at *
        generalize numN x2 = r2 at *
        have h1 := HT.out
        have Q8 : Hid (r1 = t1 ∧ r2 = t2) := by show _ ∧ _; simpa using h1
        clear h1 HT
        go_wp2_with fail
        refine (N1.out _).mono ?_
        rintro e wz ⟨rfl, hb⟩
        have HB := nxt HB hb
        clear hb
        obtain ⟨hc, hf⟩ := rules HB
        go_wp2_with fail
        exact bodyPost_ret (v := .agg #[.int .i64 r1, .int .i64 r2]) (by simp [results, Try.results26, go_sem, hc, hf]) rfl ⟨by rw [Q8.out.1, Q8.out.2], ended HB H1.out _ _⟩
      · have kb : (k == 3) = false := by simp [k3]
        have e : rval k (x1, x2, x3) = (numK x3, numN x3) := by simp [rval, h3, hn, k3]
        rw [e] at HT
        clear e
        have N1 := hidE (rnum_any x3)
        generalize numK x3 = r1 at *
        generalize numN x3 = r2 at *
        have h1 := HT.out
        have Q8 : Hid (r1 = t1 ∧ r2 = t2) := by show _ ∧ _; simpa using h1
        clear h1 HT
        go_wp2_with fail
        refine (N1.out _).mono ?_
        rintro e wz ⟨rfl, hb⟩
        have HB := nxt HB hb
        clear hb
        obtain ⟨hc, hf⟩ := rules HB
        go_wp2_with fail
        exact bodyPost_ret (v := .agg #[.int .i64 r1, .int .i64 r2]) (by simp [results, Try.results26, go_sem, hc, hf]) rfl ⟨by rw [Q8.out.1, Q8.out.2], ended HB H1.out _ _⟩
end Go.Proofs.Ytoihjhhambgpfab

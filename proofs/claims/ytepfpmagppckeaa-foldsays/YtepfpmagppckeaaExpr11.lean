/- Contracts of SameNodes (of two alike), LightNodes and may, over this seat's translation. Conditions: as named. -/
import Derived.Test.YtepfpmagppckeaaExpr10
import Derived.Test.YtepfpmagppckeaaExpr7
namespace Go.Proofs.Ytepfpmagppckeaa
open Go.ChangeShapes Go.WideShapes Go.ChangeAt Go.RowKit
set_option linter.unusedVariables false
set_option linter.unusedSimpArgs false

theorem light_any (n : Nat) (ao : Option Addr) (cap : Nat) (w : World) (hn : n ≤ maxLen) : Calls Try.prog 16 #[.slice ao n cap] w fun e w' => e = .returned (.bool (decide (n ≤ 50))) ∧ w' = w := by
  unfold maxLen at hn
  by_cases h : n ≤ 50
  · rw [decide_eq_true h]
    go_enter Try.func16, Try.ntmps16
    go_wp2
    go_ret
    exact ⟨by simp; omega, rfl⟩
  · rw [decide_eq_false h]
    go_enter Try.func16, Try.ntmps16
    go_wp2
    go_ret
    exact ⟨by simp; omega, rfl⟩

theorem neq_nodeS (w : World) (a b c d x y : Int) : (binOp .neq 50 (.agg #[.int .i64 a, .int .i64 b, .int .i64 c, .int .i64 d, .int .i64 x, .int .i64 y]) (.agg #[.int .i64 a, .int .i64 b, .int .i64 c, .int .i64 d, .int .i64 x, .int .i64 y])).run Try.prog w = .ok (.bool false) w := by
  go_simp
attribute [local go_sem ↓] neq_nodeS

theorem nodes_same (w : World) (v u : Value) (l : List Nd) (hl : l.length ≤ 1000) (hx : RowG w v 6 l.length (rowN l)) (hy : RowG w u 6 l.length (rowN l)) :
    Calls Try.prog 40 #[v, u] w fun e w' => e = .returned (.bool true) ∧ Below w.heap.size w w' := by
  obtain ⟨ao, cap, rfl⟩ := rowG_shape hx
  obtain ⟨ao2, cap2, rfl⟩ := rowG_shape hy
  have HX := hidE hx
  have HY := hidE hy
  clear hx hy
  have kn := kin_some w
  obtain ⟨kc, kf⟩ := kin_rules w
  have hb : ((l.length : Int) != (l.length : Int)) = false := by simp
  go_enter Try.func40, Try.ntmps40
  go_wp2_with fail
  go_loopw [5] (fun i wr => ∃ k : Nat, k ≤ l.length ∧ i = .int .i64 k ∧ Hid (Below w.heap.size w wr)) (fun i _ => l.length - (intOf i).toNat)
  case atStart => exact ⟨0, Nat.zero_le _, rfl, Below.refl _ _⟩
  case round =>
    obtain ⟨k, hk, rfl, HB⟩ := hrel
    by_cases hlt : k < l.length
    · obtain ⟨g, off, rfl, ⟨n0, n1, n2, n3, n4, n5⟩, l1, l2, l3⟩ := rowN_node HX.out _ hlt
      obtain ⟨g2, off2, rfl, ⟨m0, m1, m2, m3, m4, m5⟩, p1, p2, p3⟩ := rowN_node HY.out _ hlt
      generalize l[k] = nd at *
      unfold maxLen at l2 p2
      go_wp2_with fail
      refine wp_region_kin HB (by kernel_rfl) (by kernel_rfl) ?_
      repeat (go_big_quiet_step (fail))
      refine wpQuiet_nil ?_
      rintro _ ⟨p, rfl⟩
      go_wp2_with fail
      go_roundw
      case rel => exact ⟨k + 1, by omega, by go_num, p.h⟩
      case measure => simp [intOf]; omega
    · have hkn : ¬ ((k : Int) < (l.length : Int)) := by omega
      go_wp2_with fail
      go_ret
      exact ⟨rfl, HB.out⟩

/-- may it be a field of an event? -/
def fineV (p : V2) : Bool := vok p.1 p.2 && !(p.1 == 2) && decide (-1000 ≤ p.2) && decide (p.2 ≤ 1000)
def mayB (t k1 k2 a1 a2 b1 b2 : Int) : Bool := fineV (k1, k2) && fineV (a1, a2) && fineV (b1, b2) && decide (0 ≤ t) && decide (t ≤ 9999)

theorem may_no (t k1 k2 a1 a2 b1 b2 : Int) (m : Nat) (h : ∃ p, ([(k1, k2), (a1, a2), (b1, b2)] : List V2)[m]? = some p ∧ fineV p = false) : mayB t k1 k2 a1 a2 b1 b2 = false := by
  obtain ⟨p, h1, h2⟩ := h
  unfold mayB
  match m, h1 with
  | 0, h1 => simp at h1; subst h1; simp [h2]
  | 1, h1 => simp at h1; subst h1; simp [h2]
  | 2, h1 => simp at h1; subst h1; simp [h2]
  | m + 3, h1 => simp at h1
theorem may_yes (t k1 k2 a1 a2 b1 b2 : Int) (h : ∀ (m : Nat) (p : V2), ([(k1, k2), (a1, a2), (b1, b2)] : List V2)[m]? = some p → fineV p = true) : mayB t k1 k2 a1 a2 b1 b2 = (decide (0 ≤ t) && decide (t ≤ 9999)) := by
  unfold mayB
  rw [h 0 _ rfl, h 1 _ rfl, h 2 _ rfl]
  simp
theorem may_ok {t k1 k2 a1 a2 b1 b2 : Int} (h : mayB t k1 k2 a1 a2 b1 b2 = true) : ∀ p ∈ evE t k1 k2 a1 a2 b1 b2, okV p := by
  unfold mayB fineV at h
  simp only [Bool.and_eq_true] at h
  obtain ⟨⟨⟨⟨h1, h2⟩, h3⟩, -⟩, -⟩ := h
  intro p hp
  unfold evE at hp
  simp only [List.mem_cons, List.not_mem_nil, or_false] at hp
  rcases hp with rfl | rfl | rfl | rfl
  · exact ok_num t
  · exact h1.1.1.1
  · exact h2.1.1.1
  · exact h3.1.1.1

set_option maxRecDepth 100000 in
set_option maxHeartbeats 2000000 in
theorem may_any (t k1 k2 a1 a2 b1 b2 : Int) (w : World) : Calls Try.prog 39 #[aggE t k1 k2 a1 a2 b1 b2] w fun e w' => e = .returned (.bool (mayB t k1 k2 a1 a2 b1 b2)) ∧ Below w.heap.size w w' := by
  have HW : Hid (Below w.heap.size w ((w.alloc (.cells #[.int .i64 t, .int .i64 k1, .int .i64 k2, .int .i64 a1, .int .i64 a2, .int .i64 b1, .int .i64 b2] 37)).alloc (.cells #[.int .i64 k1, .int .i64 k2, .int .i64 a1, .int .i64 a2, .int .i64 b1, .int .i64 b2] 35))) := ((Below.refl _ _).alloc (Nat.le_refl _) _).alloc (by simp) _
  have HROW : Hid (RowG ((w.alloc (.cells #[.int .i64 t, .int .i64 k1, .int .i64 k2, .int .i64 a1, .int .i64 a2, .int .i64 b1, .int .i64 b2] 37)).alloc (.cells #[.int .i64 k1, .int .i64 k2, .int .i64 a1, .int .i64 a2, .int .i64 b1, .int .i64 b2] 35)) (.slice (some ⟨w.heap.size + 1, 0, none⟩) 3 3) 2 3 (rowV [(k1, k2), (a1, a2), (b1, b2)])) := by
    have h := World.ownsRow_lit (base := 0) (size := 2) (e := 35) (w.alloc (.cells #[.int .i64 t, .int .i64 k1, .int .i64 k2, .int .i64 a1, .int .i64 a2, .int .i64 b1, .int .i64 b2] 37)) #[.int .i64 k1, .int .i64 k2, .int .i64 a1, .int .i64 a2, .int .i64 b1, .int .i64 b2] 3 (Nat.zero_le _) (by decide) rfl
    have h2 := rowG_of_owns h
    simp only [World.size_alloc] at h2
    exact h2
  have e0 : ((w.alloc (.cells #[.int .i64 t, .int .i64 k1, .int .i64 k2, .int .i64 a1, .int .i64 a2, .int .i64 b1, .int .i64 b2] 37)).alloc (.cells #[.int .i64 k1, .int .i64 k2, .int .i64 a1, .int .i64 a2, .int .i64 b1, .int .i64 b2] 35)).cell? ⟨w.heap.size, 0, none⟩ = some (.int .i64 t) := by go_simp
  have kn := kin_some ((w.alloc (.cells #[.int .i64 t, .int .i64 k1, .int .i64 k2, .int .i64 a1, .int .i64 a2, .int .i64 b1, .int .i64 b2] 37)).alloc (.cells #[.int .i64 k1, .int .i64 k2, .int .i64 a1, .int .i64 a2, .int .i64 b1, .int .i64 b2] 35))
  obtain ⟨kc, kf⟩ := kin_rules ((w.alloc (.cells #[.int .i64 t, .int .i64 k1, .int .i64 k2, .int .i64 a1, .int .i64 a2, .int .i64 b1, .int .i64 b2] 37)).alloc (.cells #[.int .i64 k1, .int .i64 k2, .int .i64 a1, .int .i64 a2, .int .i64 b1, .int .i64 b2] 35))
  have hsz : ((w.alloc (.cells #[.int .i64 t, .int .i64 k1, .int .i64 k2, .int .i64 a1, .int .i64 a2, .int .i64 b1, .int .i64 b2] 37)).alloc (.cells #[.int .i64 k1, .int .i64 k2, .int .i64 a1, .int .i64 a2, .int .i64 b1, .int .i64 b2] 35)).heap.size = w.heap.size + 2 := by simp
  unfold aggE
  generalize hM : mayB t k1 k2 a1 a2 b1 b2 = M
  have HM := hidE hM
  clear hM
  go_enter Try.func39, Try.ntmps39
  go_wp2_with fail
  generalize ((w.alloc (.cells #[.int .i64 t, .int .i64 k1, .int .i64 k2, .int .i64 a1, .int .i64 a2, .int .i64 b1, .int .i64 b2] 37)).alloc (.cells #[.int .i64 k1, .int .i64 k2, .int .i64 a1, .int .i64 a2, .int .i64 b1, .int .i64 b2] 35)) = wx at *
  go_loopw [4] (fun i wr => ∃ m : Nat, m ≤ 3 ∧ i = .int .i64 m ∧ Hid (Below wx.heap.size wx wr) ∧ Hid (∀ (j : Nat) (p : V2), j < m → ([(k1, k2), (a1, a2), (b1, b2)] : List V2)[j]? = some p → fineV p = true)) (fun i _ => 3 - (intOf i).toNat)
  case atStart => exact ⟨0, Nat.zero_le _, rfl, Below.refl _ _, fun j p hj => absurd hj (by omega)⟩
  case round =>
    obtain ⟨m, hm, rfl, HB, HF⟩ := hrel
    by_cases hlt : m < 3
    · obtain ⟨g, off, hao, v0, v1, l1, l2, l3⟩ := rowV_val (l := [(k1, k2), (a1, a2), (b1, b2)]) HROW.out m hlt
      simp only [Option.some.injEq, Addr.mk.injEq] at hao
      obtain ⟨rfl, rfl, -⟩ := hao
      simp only [Nat.zero_add] at v0 v1
      have HK : Hid (([(k1, k2), (a1, a2), (b1, b2)] : List V2)[m]? = some ([(k1, k2), (a1, a2), (b1, b2)] : List V2)[m]) := List.getElem?_eq_getElem _
      generalize ([(k1, k2), (a1, a2), (b1, b2)] : List V2)[m] = q at *
      obtain ⟨q1, q2⟩ := q
      simp only at v0 v1
      clear l1 l2
      by_cases c1 : vok q1 q2 = true
      · have CK : Hid (∀ w, Calls Try.prog 36 #[.agg #[.int .i64 q1, .int .i64 q2]] w fun e w' => e = .returned .nilIface ∧ Below w.heap.size w w') := fun w => check_yes q1 q2 w c1
        by_cases c2 : q1 = 2
        · have z2 : (q1 == 2) = true := by simp [c2]
          have HFX : Hid (∃ p, ([(k1, k2), (a1, a2), (b1, b2)] : List V2)[m]? = some p ∧ fineV p = false) := ⟨_, HK.out, by unfold fineV; simp [c2]⟩
          clear c2 c1
          obtain ⟨hc, hf⟩ := rules HB
          go_wp2_with (go_at_call 36; refine (CK.out _).mono ?_; rintro e w2 ⟨rfl, hb⟩; have HB := nxt HB hb; obtain ⟨hc, hf⟩ := rules HB; clear hb)
          go_ret
          exact ⟨ret_bool (by rw [← HM.out]; exact (may_no _ _ _ _ _ _ _ m HFX.out).symm), done HW.out HB⟩
        · have z2 : (q1 == 2) = false := by simp [c2]
          by_cases c3 : q2 < -1000
          · have HFX : Hid (∃ p, ([(k1, k2), (a1, a2), (b1, b2)] : List V2)[m]? = some p ∧ fineV p = false) := ⟨_, HK.out, by unfold fineV; simp; omega⟩
            clear c2 c1
            obtain ⟨hc, hf⟩ := rules HB
            go_wp2_with (go_at_call 36; refine (CK.out _).mono ?_; rintro e w2 ⟨rfl, hb⟩; have HB := nxt HB hb; obtain ⟨hc, hf⟩ := rules HB; clear hb)
            go_ret
            exact ⟨ret_bool (by rw [← HM.out]; exact (may_no _ _ _ _ _ _ _ m HFX.out).symm), done HW.out HB⟩
          · have z3 : decide (q2 < -1000) = false := by simp; omega
            by_cases c4 : 1000 < q2
            · have HFX : Hid (∃ p, ([(k1, k2), (a1, a2), (b1, b2)] : List V2)[m]? = some p ∧ fineV p = false) := ⟨_, HK.out, by unfold fineV; simp; omega⟩
              clear c2 c1 c3
              obtain ⟨hc, hf⟩ := rules HB
              go_wp2_with (go_at_call 36; refine (CK.out _).mono ?_; rintro e w2 ⟨rfl, hb⟩; have HB := nxt HB hb; obtain ⟨hc, hf⟩ := rules HB; clear hb)
              go_ret
              exact ⟨ret_bool (by rw [← HM.out]; exact (may_no _ _ _ _ _ _ _ m HFX.out).symm), done HW.out HB⟩
            · have z4 : decide (1000 < q2) = false := by simp; omega
              have HN : Hid (fineV (q1, q2) = true) := by
                show _ = _
                unfold fineV
                simp only [c1, z2, decide_eq_true (by omega : -1000 ≤ q2), decide_eq_true (by omega : q2 ≤ 1000)]
                rfl
              clear c2 c1 c3 c4
              obtain ⟨hc, hf⟩ := rules HB
              go_wp2_with (go_at_call 36; refine (CK.out _).mono ?_; rintro e w2 ⟨rfl, hb⟩; have HB := nxt HB hb; obtain ⟨hc, hf⟩ := rules HB; clear hb)
              go_roundw
              case rel => exact ⟨m + 1, by omega, by go_num, HB, fun j p hj hp => by
                by_cases hjm : j = m
                · subst hjm
                  rw [HK.out] at hp
                  cases hp
                  exact HN.out
                · exact HF.out j p (by omega) hp⟩
              case measure => simp [intOf]; omega
      · have CK : Hid (∀ w, Calls Try.prog 36 #[.agg #[.int .i64 q1, .int .i64 q2]] w fun e w' => e = .returned (.iface 69 (.int .i64 3)) ∧ Below w.heap.size w w') := fun w => check_no q1 q2 w (by simpa using c1)
        have HFX : Hid (∃ p, ([(k1, k2), (a1, a2), (b1, b2)] : List V2)[m]? = some p ∧ fineV p = false) := ⟨_, HK.out, by unfold fineV; simp [c1]⟩
        clear c1
        obtain ⟨hc, hf⟩ := rules HB
        go_wp2_with (go_at_call 36; refine (CK.out _).mono ?_; rintro e w2 ⟨rfl, hb⟩; have HB := nxt HB hb; obtain ⟨hc, hf⟩ := rules HB; clear hb)
        go_ret
        exact ⟨ret_bool (by rw [← HM.out]; exact (may_no _ _ _ _ _ _ _ m HFX.out).symm), done HW.out HB⟩
    · have hm3 : m = 3 := by omega
      subst hm3
      have HY := hidE (may_yes t k1 k2 a1 a2 b1 b2 (fun j p hp => HF.out j p (by have := (List.getElem?_eq_some_iff.1 hp).1; simpa using this) hp))
      have e1 : wr.cell? ⟨w.heap.size, 0, none⟩ = some (.int .i64 t) := by rw [HB.out.cell (p := ⟨w.heap.size, 0, none⟩) (by rw [hsz]; show w.heap.size < _; omega)]; exact e0
      have HMM : Hid (M = (decide (0 ≤ t) && decide (t ≤ 9999))) := by show _ = _; rw [← HM.out, HY.out]
      by_cases t1 : 0 ≤ t
      · by_cases t2 : t ≤ 9999
        · go_wp2_with fail
          go_ret
          exact ⟨ret_bool (by rw [HMM.out, decide_eq_true t1, decide_eq_true t2]; rfl), done HW.out HB⟩
        · have t3 : decide (t ≤ 9999) = false := by simpa using t2
          go_wp2_with fail
          go_ret
          exact ⟨ret_bool (by rw [HMM.out, decide_eq_true t1, t3]; rfl), done HW.out HB⟩
      · have t3 : decide (0 ≤ t) = false := by simpa using t1
        go_wp2_with fail
        go_ret
        exact ⟨ret_bool (by rw [HMM.out, t3]; rfl), done HW.out HB⟩
end Go.Proofs.Ytepfpmagppckeaa

/- The contracts of slices.Clone of numbers, and of clock.New and See, over this seat's translation. Conditions: as named. -/
import Derived.Test.YtepfpmagppckeabClock1
namespace Go.Proofs.Ytepfpmagppckeab
open Go.ChangeShapes Go.WideShapes Go.ChangeAt Go.RowKit
set_option linter.unusedVariables false
set_option linter.unusedSimpArgs false

theorem owns_set {w : World} {base g n cap : Nat} {e : TypeId} {xs : List Value} (h : w.ownsRow base e 1 (.slice (some ⟨g, 0, none⟩) n cap) n xs) (p : Nat) (u : Value) :
    (w.setCell ⟨g, p, none⟩ u).ownsRow base e 1 (.slice (some ⟨g, 0, none⟩) n cap) n (xs.set p u) := by
  obtain ⟨h0, h1⟩ := h
  refine ⟨by simpa using h0, ?_⟩
  rcases h1 with ⟨e1, -⟩ | ⟨g', cap', cur, e1, hb, hg, hle, hm, hs, ht⟩
  · cases e1
  · simp only [Value.slice.injEq, Option.some.injEq, Addr.mk.injEq, and_true, true_and] at e1
    obtain ⟨rfl, rfl⟩ := e1
    refine .inr ⟨g, cap, cur.setIfInBounds p u, rfl, hb, ?_, hle, hm, by simpa using hs, ?_⟩
    · simp [World.setCell, Array.getElem?_modify, hg]
    · rw [← ht, Array.toList_setIfInBounds, List.take_set]
theorem owns_thaw {w : World} {base g n cap : Nat} {e : TypeId} {xs : List Value} (h : w.ownsRow base e 1 (.slice (some ⟨g, 0, none⟩) n cap) n xs) (o : Nat) : w.frozen? ⟨g, o, none⟩ = false := by
  obtain ⟨h0, h1⟩ := h
  rcases h1 with ⟨e1, -⟩ | ⟨g', cap', cur, e1, hb, hg, hle, hm, hs, ht⟩
  · cases e1
  · simp only [Value.slice.injEq, Option.some.injEq, Addr.mk.injEq, and_true, true_and] at e1
    obtain ⟨rfl, rfl⟩ := e1
    simp [World.frozen?, hg]
theorem owns_far {w : World} {base base' n g' : Nat} {e : TypeId} {v : Value} {xs : List Value} (h : w.ownsRow base e 1 v n xs) (hb : base' ≤ base) (hg : g' < base) (o : Nat) (u : Value) : (w.setCell ⟨g', o, none⟩ u).ownsRow base' e 1 v n xs := by
  obtain ⟨h0, h1⟩ := h
  refine ⟨h0, ?_⟩
  rcases h1 with h1 | ⟨g, cap, cur, e1, hb', hg', hle, hm, hs, ht⟩
  · exact .inl h1
  · exact .inr ⟨g, cap, cur, e1, by omega, by rw [Below.heap_setCell w _ u g (by simp; omega)]; exact hg', hle, hm, hs, ht⟩
theorem owns_far2 {w : World} {base n g g' cap : Nat} {e : TypeId} {xs : List Value} (h : w.ownsRow base e 1 (.slice (some ⟨g, 0, none⟩) n cap) n xs) (hg : g' ≠ g) (o : Nat) (u : Value) : (w.setCell ⟨g', o, none⟩ u).ownsRow base e 1 (.slice (some ⟨g, 0, none⟩) n cap) n xs := by
  obtain ⟨h0, h1⟩ := h
  refine ⟨h0, ?_⟩
  rcases h1 with ⟨e1, -⟩ | ⟨g2, cap', cur, e1, hb', hg', hle, hm, hs, ht⟩
  · cases e1
  · simp only [Value.slice.injEq, Option.some.injEq, Addr.mk.injEq, and_true, true_and] at e1
    obtain ⟨rfl, rfl⟩ := e1
    exact .inr ⟨g, cap, cur, rfl, hb', by rw [Below.heap_setCell w _ u g (by simpa using hg.symm)]; exact hg', hle, hm, hs, ht⟩
theorem owns_head {w : World} {base n : Nat} {e : TypeId} {v : Value} {xs : List Value} (h : w.ownsRow base e 1 v n xs) (h0 : 0 < n) : ∃ g cap, v = .slice (some ⟨g, 0, none⟩) n cap ∧ base ≤ g ∧ g < w.heap.size := by
  rcases h.2 with ⟨-, hn⟩ | ⟨g, cap, cur, rfl, hb, hg, -⟩
  · omega
  · exact ⟨g, cap, rfl, hb, (Array.getElem?_eq_some_iff.1 hg).1⟩

theorem eql_ints_nil (w : World) (a : Addr) (n c : Nat) : (binOp .eql 22 (.slice (some a) n c) (.slice none 0 0)).run Try.prog w = .ok (.bool false) w := by kernel_rfl

set_option maxRecDepth 100000 in
theorem clone_any (G : List Int) (v : Value) (w : World) (hl : G.length ≤ 1000) (h0 : 0 < G.length) (hr : RowC w v G) :
    Calls Try.prog 49 #[v] w fun e w' => ∃ u, e = .returned u ∧ w'.ownsRow w.heap.size 3 1 u G.length (G.map (Value.int .i64)) ∧ Below w.heap.size w w' := by
  obtain ⟨g, off, cap, rfl, l1, l2, l3, hc0⟩ := rowC_at hr h0
  obtain ⟨i0, hi, hz0, hz1, hz2⟩ := info_parts infoI
  have HC := hidE hc0
  clear hc0 hr
  unfold maxLen at l2
  have en := fun w => eql_ints_nil w ⟨g, off, none⟩ G.length cap
  go_enter Try.func49, Try.ntmps49
  have HO : Hid ((w.alloc (.cells #[] 3)).ownsRow w.heap.size 3 1 (.slice (some ⟨w.heap.size, 0, none⟩) 0 0) 0 []) := by
    have h := World.ownsRow_lit (base := w.heap.size) (size := 1) (e := 3) w #[] 0 (Nat.le_refl _) (by decide) rfl
    exact hidE (by simpa using h)
  have HN : Hid (∀ j u, (G.map (Value.int .i64))[j]? = some u → (w.alloc (.cells #[] 3)).cell? ((⟨g, off, none⟩ : Addr).add j) = some u) := fun j u hu => by
    have hj : j < G.length := by
      have := (List.getElem?_eq_some_iff.1 hu).1
      simpa using this
    have h1 := HC.out j hj
    have h2 : (w.alloc (.cells #[] 3)).cell? ⟨g, off + j, none⟩ = w.cell? ⟨g, off + j, none⟩ := World.cell?_alloc_lt _ _ _ (by exact l3)
    have h3 : (⟨g, off, none⟩ : Addr).add j = ⟨g, off + j, none⟩ := by simp [Addr.add]
    rw [h3, h2, h1]
    simp [List.getD, hj] at hu ⊢
    exact hu
  have ho : ∀ u ∈ G.map (Value.int .i64), u.oneCell' = true := ints_oneCell .i64 G
  have HOC := hidE ho
  clear ho
  go_wp2_with (at_builtin; go_must (refine wpList_append_own _ rfl (.tmp 5) (.tmp 6) 22 rfl w.heap.size 3 i0 (.int .i64 0) 1 8 Try.underlying22 hi hz0 hz1 hz2 rfl (by decide) _ _ _ rfl HO.out ⟨g, off, none⟩ G.length cap (G.map (Value.int .i64)) rfl (by simp) HN.out HOC.out (by show _ ≤ 2 ^ 63 - 1; omega) (by omega) (by simp) ?_))
  intro v' w3 ho3 hg3 _
  have ho4 : w3.ownsRow w.heap.size 3 1 v' G.length (G.map (Value.int .i64)) := by simpa using ho3
  have HO3 := hidE ho4
  have HB3 : Hid (Below w.heap.size w w3) := ((Below.refl _ _).alloc (Nat.le_refl _) _).grown hg3 (by simp) (fun k hk => by have := (HO.out.lt k hk).1; omega)
  clear ho3 hg3 ho4
  obtain ⟨g3, cap3, rfl, -, -⟩ := owns_head HO3.out h0
  go_wp2_with fail
  go_ret
  exact ⟨_, rfl, HO3.out, HB3.out⟩

set_option maxRecDepth 100000 in
theorem see_any (G : List Int) (v : Value) (p : Nat) (t : Int) (w : World) (hl : G.length ≤ 1000) (hp : p < G.length) (hr : RowC w v G) :
    Calls Try.prog 18 #[.agg #[v], .int .i64 p, .int .i64 t] w fun e w' => ∃ u, e = .returned (.agg #[u]) ∧ w'.ownsRow w.heap.size 3 1 u (seeL G p t).length ((seeL G p t).map (Value.int .i64)) ∧ Below w.heap.size w w' := by
  obtain ⟨g, off, cap, rfl, l1, l2, l3, hc0⟩ := rowC_at hr (by omega)
  have HR := hidE hr
  have HA := hidE (fun w => has_any G.length (some ⟨g, off, none⟩) cap p w hl)
  have d1 : decide (0 ≤ (p : Int)) = true := by simp
  have d2 : decide ((p : Int) < (G.length : Int)) = true := by simp; omega
  rw [d1, d2] at HA
  simp only [Bool.and_self] at HA
  clear hc0 hr d1 d2
  unfold maxLen at l2
  have H1 : Hid (Below w.heap.size w ((w.alloc (.cells #[.slice (some ⟨g, off, none⟩) G.length cap] 29)).alloc (.cells #[.slice none 0 0] 29))) := ((Below.refl _ _).alloc (Nat.le_refl _) _).alloc (by simp) _
  go_enter Try.func18, Try.ntmps18
  go_wp2_with fail
  refine (clone_any G _ _ hl (by omega) (rowG_below HR.out H1.out)).mono ?_
  rintro e w1 ⟨u, rfl, ho, hb⟩
  obtain ⟨g1, cap1, rfl, hb1, hg1⟩ := owns_head ho (by omega)
  simp only [World.size_alloc] at hb1
  have HB := hidE hb
  have HO := hidE ho
  clear hb ho
  obtain ⟨hc, hf⟩ := rules HB
  go_wp2_with fail
  refine (HA.out _).mono ?_
  rintro e w2 ⟨rfl, hb⟩
  have HO := hidE (own_keep HO.out hb (Nat.le_refl _))
  have hg1 := Nat.lt_of_lt_of_le hg1 hb.size
  have HB := nxt HB hb
  clear hb hc hf
  obtain ⟨hc, hf⟩ := rules HB
  have cx : w2.cell? ⟨g1, p, none⟩ = some (.int .i64 (G.getD p 0)) := by
    have h := HO.out.cellAt p (by omega)
    rw [h]
    simp [List.getD, hp]
  have fz := owns_thaw HO.out p
  obtain ⟨x, hx⟩ : ∃ x, G.getD p 0 = x := ⟨_, rfl⟩
  rw [hx] at cx
  have HX := hidE hx
  clear hx
  by_cases hxt : x < t
  · have dxt : decide (x < t) = true := by simp [hxt]
    go_wp2_with fail
    have ho2 := owns_far (base' := w.heap.size) (owns_set HO.out p (.int .i64 t)) (by simp only [World.size_alloc]; omega) (g' := w.heap.size + 1) (by simp only [World.size_alloc]; omega) 0 (.slice (some ⟨g1, 0, none⟩) G.length cap1)
    have hb2 := ((H1.out.trans (HB.out.mono H1.out.size)).setCell (p := ⟨g1, p, none⟩) (show w.heap.size ≤ g1 by omega) (.int .i64 t)).setCell (p := ⟨w.heap.size + 1, 0, none⟩) (show w.heap.size ≤ w.heap.size + 1 by omega) (.slice (some ⟨g1, 0, none⟩) G.length cap1)
    have hl2 : (seeL G p t).map (Value.int .i64) = (G.map (Value.int .i64)).set p (.int .i64 t) := by
      unfold seeL
      rw [HX.out, show max x t = t from by omega, List.map_set]
    exact bodyPost_ret (v := .agg #[.slice (some ⟨g1, 0, none⟩) G.length cap1]) (by simp [results, Try.results18, go_sem, hc, hf]) rfl ⟨_, rfl, by rw [hl2, see_len]; exact ho2, hb2⟩
  · have dxt : decide (x < t) = false := by simp; omega
    go_wp2_with fail
    have ho2 := owns_far (base' := w.heap.size) (owns_set HO.out p (.int .i64 x)) (by simp only [World.size_alloc]; omega) (g' := w.heap.size + 1) (by simp only [World.size_alloc]; omega) 0 (.slice (some ⟨g1, 0, none⟩) G.length cap1)
    have hb2 := ((H1.out.trans (HB.out.mono H1.out.size)).setCell (p := ⟨g1, p, none⟩) (show w.heap.size ≤ g1 by omega) (.int .i64 x)).setCell (p := ⟨w.heap.size + 1, 0, none⟩) (show w.heap.size ≤ w.heap.size + 1 by omega) (.slice (some ⟨g1, 0, none⟩) G.length cap1)
    have hl2 : (seeL G p t).map (Value.int .i64) = (G.map (Value.int .i64)).set p (.int .i64 x) := by
      unfold seeL
      rw [HX.out, show max x t = x from by omega, List.map_set]
    exact bodyPost_ret (v := .agg #[.slice (some ⟨g1, 0, none⟩) G.length cap1]) (by simp [results, Try.results18, go_sem, hc, hf]) rfl ⟨_, rfl, by rw [hl2, see_len]; exact ho2, hb2⟩

set_option maxRecDepth 100000 in
theorem cnew_bad (n : Int) (w : World) (h : n < 1 ∨ 3 < n) :
    Calls Try.prog 15 #[.int .i64 n] w fun e w' => e = .returned (.tuple #[.agg #[.slice none 0 0], .iface 109 (.int .i64 1)]) ∧ Below w.heap.size w w' := by
  by_cases h1 : n < 1
  · go_enter Try.func15, Try.ntmps15
    go_wp2_with fail
    exact bodyPost_ret (v := .tuple #[.agg #[.slice none 0 0], .iface 109 (.int .i64 1)]) (by simp [results, Try.results15, go_sem]) rfl ⟨rfl, (Below.refl _ _).alloc (Nat.le_refl _) _⟩
  · have h2 : 3 < n := by omega
    have d1 : decide (n < 1) = false := by simp; omega
    go_enter Try.func15, Try.ntmps15
    go_wp2_with fail
    exact bodyPost_ret (v := .tuple #[.agg #[.slice none 0 0], .iface 109 (.int .i64 1)]) (by simp [results, Try.results15, go_sem]) rfl ⟨rfl, (Below.refl _ _).alloc (Nat.le_refl _) _⟩

set_option maxRecDepth 100000 in
theorem cnew_any (n : Nat) (w : World) (h1 : 1 ≤ n) (h3 : n ≤ 3) :
    Calls Try.prog 15 #[.int .i64 n] w fun e w' => ∃ u, e = .returned (.tuple #[.agg #[u], .nilIface]) ∧ w'.ownsRow w.heap.size 3 1 u (noneL n).length ((noneL n).map (Value.int .i64)) ∧ Below w.heap.size w w' := by
  obtain ⟨i0, hi, hz0, hz1, hz2⟩ := info_parts infoI
  go_enter Try.func15, Try.ntmps15
  go_wp2_with (at_make; go_must (refine wpList_make_full _ rfl _ _ 22 rfl w.heap.size 3 i0 (.int .i64 0) 1 Try.underlying22 hi hz0 hz1 .i64 .i64 _ _ n rfl rfl rfl rfl (by rw [hz2]; omega) (by show _ ≤ 2 ^ 63 - 1; omega) (by simp) ?_))
  intro w1 ho hg
  have HB : Hid (Below (w.alloc (.cells #[.slice none 0 0] 29)).heap.size (w.alloc (.cells #[.slice none 0 0] 29)) w1) := (Below.refl _ _).grown hg (Nat.le_refl _) (fun k hk => by cases hk)
  have H1 : Hid (Below w.heap.size w (w.alloc (.cells #[.slice none 0 0] 29))) := (Below.refl _ _).alloc (Nat.le_refl _) _
  obtain ⟨L, hL, hM⟩ : ∃ L : List Int, L.length = n ∧ (madeCells #[Value.int .i64 0] n).toList = L.map (Value.int .i64) := by
    rcases (by omega : n = 1 ∨ n = 2 ∨ n = 3) with rfl | rfl | rfl
    · exact ⟨[0], rfl, by kernel_rfl⟩
    · exact ⟨[0, 0], rfl, by kernel_rfl⟩
    · exact ⟨[0, 0, 0], rfl, by kernel_rfl⟩
  rw [hM] at ho
  have HO := hidE ho
  clear ho hg hM
  have lt1 : w.heap.size + 1 < w1.heap.size := by
    obtain ⟨g, cap, e, -, h⟩ := owns_head HO.out (by omega)
    simp only [Value.slice.injEq, Option.some.injEq, Addr.mk.injEq, and_true, true_and] at e
    omega
  go_wp2_with fail
  go_loopw [17] (fun i wr => ∃ (m : Nat) (L : List Int), m ≤ n ∧ L.length = n ∧ i = .int .i64 m ∧ Hid (∀ j, j < m → L.getD j 0 = -1) ∧ Hid (wr.ownsRow w.heap.size 3 1 (.slice (some ⟨w.heap.size + 1, 0, none⟩) n n) n (L.map (Value.int .i64))) ∧ Hid (Below (w.alloc (.cells #[.slice none 0 0] 29)).heap.size (w.alloc (.cells #[.slice none 0 0] 29)) wr)) (fun i _ => n - (intOf i).toNat)
  case atStart => exact ⟨0, L, Nat.zero_le _, hL, rfl, fun j hj => absurd hj (by omega), HO, HB⟩
  case round =>
    clear HO HB hL L
    obtain ⟨m, L, hm, hL, rfl, HM, HO, HB⟩ := hrel
    by_cases hlt : m < n
    · have cx : wr.cell? ⟨w.heap.size + 1, m, none⟩ = some (.int .i64 (L.getD m 0)) := by
        have h := HO.out.cellAt m (by omega)
        rw [h]
        simp [List.getD, hL, hlt]
      have fz := owns_thaw HO.out m
      generalize hx : L.getD m 0 = x at cx
      clear hx
      have hLH := hidE hL
      clear hL
      go_wp2_with fail
      go_roundw
      case rel => exact ⟨m + 1, L.set m (-1), by omega, by simpa using hLH.out, by go_num, fun j hj => by
          rw [List.getD_eq_getElem?_getD, List.getElem?_set]
          by_cases h9 : m = j
          · subst h9; simp [hLH.out, hlt]
          · have := HM.out j (by omega)
            rw [List.getD_eq_getElem?_getD] at this
            simp [h9, this], by
          have h := owns_set HO.out m (.int .i64 (-1))
          rw [← List.map_set] at h
          exact hidE h, HB.out.setCell (p := ⟨w.heap.size + 1, m, none⟩) (by simp) _⟩
      case measure => simp [intOf]; omega
    · have hmn : m = n := by omega
      subst hmn
      have HE : Hid (L = noneL m) := by
        show _ = _
        exact nums_ext (by rw [hL, none_len]) (fun i hi => by rw [HM.out i (by omega)]; simp [noneL, List.getD, show i < m from by omega])
      have HLm := hidE hL
      clear hL
      obtain ⟨hc, hf⟩ := rules HB
      have HB2 := hidE (H1.out.trans (HB.out.mono H1.out.size))
      go_wp2_with fail
      have ho2 := owns_far2 (g' := w.heap.size) HO.out (by omega) 0 (.slice (some ⟨w.heap.size + 1, 0, none⟩) m m)
      have hb2 := HB2.out.setCell (p := ⟨w.heap.size, 0, none⟩) (Nat.le_refl _) (.slice (some ⟨w.heap.size + 1, 0, none⟩) m m)
      exact bodyPost_ret (v := .tuple #[.agg #[.slice (some ⟨w.heap.size + 1, 0, none⟩) m m], .nilIface]) (by simp [results, Try.results15, go_sem, hc, hf]) rfl ⟨_, rfl, by rw [← HE.out, HLm.out]; exact ho2, hb2⟩
end Go.Proofs.Ytepfpmagppckeab

/- The contracts of slices.Clone of events, of source.All and of the law's sameEvents, over this seat's translation. Conditions: as named. -/
import Derived.Test.YtepfpmagppckeabSrc4
namespace Go.Proofs.Ytepfpmagppckeab
open Go.ChangeShapes Go.WideShapes Go.ChangeAt Go.RowKit
set_option linter.unusedVariables false
set_option linter.unusedSimpArgs false

theorem eql_evs_nil (w : World) (a : Addr) (n c : Nat) : (binOp .eql 76 (.slice (some a) n c) (.slice none 0 0)).run Try.prog w = .ok (.bool false) w := by kernel_rfl
theorem eql_evs_nil2 (w : World) : (binOp .eql 76 (.slice none 0 0) (.slice none 0 0)).run Try.prog w = .ok (.bool true) w := by kernel_rfl
theorem cellsE_one : ∀ (r : List Ev), ∀ u ∈ rowOf cellsE r, u.oneCell' = true := by
  intro r u hu
  unfold rowOf at hu
  rw [List.mem_flatMap] at hu
  obtain ⟨e, -, h⟩ := hu
  simp only [cellsE, List.mem_cons, List.not_mem_nil, or_false] at h
  rcases h with rfl | rfl | rfl | rfl | rfl | rfl | rfl <;> rfl

set_option maxRecDepth 100000 in
theorem cloneE_any (B : Nat) (r : List Ev) (v : Value) (w : World) (hl : r.length ≤ 1000) (hB : B ≤ w.heap.size) (B0 : Nat) (hr : w.ownsRow B0 71 7 v r.length (rowOf cellsE r)) :
    Calls Try.prog 56 #[v] w fun e w' => ∃ u, e = .returned u ∧ w'.ownsRow w.heap.size 71 7 u r.length (rowOf cellsE r) ∧ Below w.heap.size w w' := by
  obtain ⟨i0, hi, hz0, hz1, hz2⟩ := info_parts infoE
  obtain ⟨h0, h1⟩ := hr
  rcases h1 with ⟨rfl, hn⟩ | ⟨g, cap, cur, rfl, hb', hg, hle, hm, hs, ht⟩
  · have en := eql_evs_nil2
    go_enter Try.func56, Try.ntmps56
    go_wp2_with fail
    go_ret
    have : r = [] := List.eq_nil_of_length_eq_zero hn
    subst this
    exact ⟨_, rfl, World.ownsRow_nil _ _ _ _, Below.refl _ _⟩
  · have hgl : g < w.heap.size := (Array.getElem?_eq_some_iff.1 hg).1
    have hcell := World.ownsRow.cellAt (w := w) (base := B0) (e := 71) (size := 7) (g := g) (n := r.length) (cap := cap) ⟨h0, .inr ⟨g, cap, cur, rfl, hb', hg, hle, hm, hs, ht⟩⟩
    have HC := hidE hcell
    clear hcell hg ht hs h0
    unfold maxLen at hm
    have en := fun w => eql_evs_nil w ⟨g, 0, none⟩ r.length cap
    have HO : Hid ((w.alloc (.cells #[] 71)).ownsRow w.heap.size 71 7 (.slice (some ⟨w.heap.size, 0, none⟩) 0 0) 0 []) := by
      have h := World.ownsRow_lit (base := w.heap.size) (size := 7) (e := 71) w #[] 0 (Nat.le_refl _) (by decide) rfl
      exact hidE (by simpa using h)
    have HN : Hid (∀ j u, (rowOf cellsE r)[j]? = some u → (w.alloc (.cells #[] 71)).cell? ((⟨g, 0, none⟩ : Addr).add j) = some u) := fun j u hu => by
      have hj : j < r.length * 7 := by
        have := (List.getElem?_eq_some_iff.1 hu).1
        rw [rowOf_len cellsE_len] at this
        exact this
      have h2 : (w.alloc (.cells #[] 71)).cell? ⟨g, j, none⟩ = w.cell? ⟨g, j, none⟩ := World.cell?_alloc_lt _ _ _ (by exact hgl)
      have h3 : (⟨g, 0, none⟩ : Addr).add j = ⟨g, j, none⟩ := by simp [Addr.add]; intro h; exact h.symm
      rw [h3, h2, HC.out j hj, hu]
    have HL := hidE (rowOf_len cellsE_len r)
    have HOC := hidE (cellsE_one r)
    go_enter Try.func56, Try.ntmps56
    go_wp2_with (at_builtin; go_must (refine wpList_append_own _ rfl (.tmp 5) (.tmp 6) 76 rfl w.heap.size 71 i0 (.agg #[.int .i64 0, .int .i64 0, .int .i64 0, .int .i64 0, .int .i64 0, .int .i64 0, .int .i64 0]) 7 56 Try.underlying76 hi hz0 hz1 hz2 rfl (by decide) _ _ _ rfl HO.out ⟨g, 0, none⟩ r.length cap (rowOf cellsE r) rfl HL.out HN.out HOC.out (by show _ ≤ 2 ^ 63 - 1; omega) (by omega) (by simp) ?_))
    intro v' w3 ho3 hg3 _
    have ho4 : w3.ownsRow w.heap.size 71 7 v' r.length (rowOf cellsE r) := by simpa using ho3
    have HO3 := hidE ho4
    have HB3 : Hid (Below w.heap.size w w3) := ((Below.refl _ _).alloc (Nat.le_refl _) _).grown hg3 (by simp) (fun k hk => by have := (HO.out.lt k hk).1; omega)
    clear ho3 hg3 ho4
    obtain ⟨ao3, cap3, rfl⟩ := owns_shapeE HO3.out
    go_wp2_with fail
    go_ret
    exact ⟨_, rfl, HO3.out, HB3.out⟩

set_option maxRecDepth 100000 in
theorem sall_any (B gs go P : Nat) (vs : List Value) (M : List (List Ev)) (w : World) (h : BlkAt w gs [.slice (some ⟨go, 0, none⟩) P P]) (ht : Tab B w go vs M) (h1 : 1 ≤ P) (h3 : P ≤ 3) (hM : M.length = P) (hl : ∀ r ∈ M, r.length ≤ 1000) :
    Calls Try.prog 36 #[.pointer (some ⟨gs, 0, none⟩)] w fun e w' => ∃ ga us, e = .returned (.slice (some ⟨ga, 0, none⟩) P P) ∧ TabR w' ga us M ∧ Below w.heap.size w w' := by
  obtain ⟨i0, hi, hz0, hz1, hz2⟩ := info_parts infoEs
  have PA := hidE (fun w' hb => parts_any gs go P w' (blk_below h hb h.lt))
  have HG := hidE h
  have HT := hidE ht
  clear h ht
  go_enter Try.func36, Try.ntmps36
  go_wp2_with fail
  refine (PA.out w (Below.refl _ _)).mono ?_
  rintro e w0 ⟨rfl, rfl⟩
  go_wp2_with (at_make; go_must (refine wpList_make_full _ rfl _ _ 69 rfl w0.heap.size 76 i0 (.slice none 0 0) 1 Try.underlying69 hi hz0 hz1 .i64 .i64 _ _ P rfl rfl rfl rfl (by rw [hz2]; omega) (by show _ ≤ 2 ^ 63 - 1; omega) (by simp) ?_))
  intro w1 ho hg
  have hMd : (madeCells #[Value.slice none 0 0] P).toList = nilL P := by
    rcases (by omega : P = 1 ∨ P = 2 ∨ P = 3) with rfl | rfl | rfl <;> kernel_rfl
  rw [hMd] at ho
  have HB : Hid (Below w0.heap.size w0 w1) := (Below.refl _ _).grown hg (Nat.le_refl _) (fun k hk => by cases hk)
  have HK := hidE (blk_of_owns ho)
  clear ho hg hMd
  go_wp2_with fail
  refine (PA.out w1 HB.out).mono ?_
  rintro e w2 ⟨rfl, rfl⟩
  go_wp2_with fail
  go_loopw [10] (fun i wr => ∃ (m : Nat) (us : List Value), m ≤ P ∧ i = .int .i64 m ∧ us.length = P ∧ Hid (BlkAt wr w0.heap.size us) ∧ Hid (∀ (j : Nat) (u : Value) (r : List Ev), j < m → us[j]? = some u → M[j]? = some r → wr.ownsRow (w0.heap.size + 1) 71 7 u r.length (rowOf cellsE r)) ∧ Hid (Below w0.heap.size w0 wr)) (fun i _ => P - (intOf i).toNat)
  case atStart => exact ⟨0, nilL P, Nat.zero_le _, rfl, by simp [nilL], HK, fun j u r hj => absurd hj (by omega), HB⟩
  case round =>
    clear HB HK
    obtain ⟨m, us, hm, rfl, hus, HK, HR, HB⟩ := hrel
    by_cases hlt : m < P
    · have hmv : m < vs.length := by rw [HT.out.n1]; omega
      have hmM : m < M.length := by omega
      have HG2 := hidE (blk_below HG.out HB.out HG.out.lt)
      have HT2 := hidE (tab_below HT.out HB.out)
      have c0 : wr.cell? ⟨gs, 0, none⟩ = some (.slice (some ⟨go, 0, none⟩) P P) := HG2.out.c 0 (by simp)
      have c1 : wr.cell? ⟨go, m, none⟩ = some vs[m] := (HT2.out.bk.c m hmv).trans (List.getElem?_eq_getElem hmv)
      have RM := hidE (HT2.out.rows m vs[m] M[m] (List.getElem?_eq_getElem hmv) (List.getElem?_eq_getElem hmM))
      have lm := hl M[m] (List.getElem_mem hmM)
      have HMM := hidE (List.getElem?_eq_getElem hmM)
      generalize vs[m] = v at *
      generalize M[m] = r at *
      obtain ⟨ao, cap, rfl⟩ := owns_shapeE RM.out
      have CL := hidE (cloneE_any B r _ wr lm (by have := (tab_lt HT2.out (k := go) (.inl rfl)); omega) B RM.out)
      go_wp2_with fail
      refine CL.out.mono ?_
      rintro e w3 ⟨u, rfl, ho, hb⟩
      obtain ⟨ao3, cap3, rfl⟩ := owns_shapeE ho
      have HK3 := hidE (blk_below HK.out hb HK.out.lt)
      have hmu : m < us.length := by omega
      have cm := HK3.out.c m hmu
      rw [List.getElem?_eq_getElem hmu] at cm
      have fm := HK3.out.fz m
      generalize us[m] = um at cm
      have HB3 := nxt HB hb
      have lga : w0.heap.size < wr.heap.size := HK.out.lt
      have HR3 : Hid (∀ (j : Nat) (u : Value) (s : List Ev), j < m + 1 → (us.set m (.slice ao3 r.length cap3))[j]? = some u → M[j]? = some s → (w3.setCell ⟨w0.heap.size, m, none⟩ (.slice ao3 r.length cap3)).ownsRow (w0.heap.size + 1) 71 7 u s.length (rowOf cellsE s)) := by
        intro j u s hj hu hs
        rw [List.getElem?_set] at hu
        by_cases hjm : m = j
        · subst hjm
          simp only [if_true, hmu, Option.some.injEq] at hu
          subst hu
          rw [HMM.out] at hs
          cases hs
          refine ownsRow_setCell_other (owns_baseG ho (by omega)) ?_ _
          intro e
          have h8 : wr.heap.size ≤ w0.heap.size := (own_at ho _ e).1
          omega
        · simp only [hjm, if_false] at hu
          have h9 := own_keep (HR.out j u s (by omega) hu hs) hb (Nat.le_refl _)
          refine ownsRow_setCell_other h9 ?_ _
          intro e
          have h8 : w0.heap.size + 1 ≤ w0.heap.size := (own_at h9 _ e).1
          omega
      have HK4 := hidE (blk_set HK3.out m (.slice ao3 r.length cap3) hmu)
      have HB4 := hidE (HB3.out.setCell (p := ⟨w0.heap.size, m, none⟩) (Nat.le_refl _) (.slice ao3 r.length cap3))
      clear ho hb HK3 HB3 c0 c1 HG2 HT2 RM HMM CL HR HK HB
      go_wp2_with fail
      go_roundw
      case rel => exact ⟨m + 1, us.set m (.slice ao3 r.length cap3), by omega, by go_num, by simpa using hus, HK4, HR3, HB4⟩
      case measure => simp [intOf]; omega
    · have hmP : m = P := by omega
      subst hmP
      go_wp2_with fail
      go_ret
      exact ⟨_, us, rfl, ⟨HK.out.lt, by omega, HK.out.c, fun i v r hv hr => rowG_of_owns (HR.out i v r (by have := (List.getElem?_eq_some_iff.1 hv).1; omega) hv hr)⟩, HB.out⟩

theorem neq_ev (w : World) (t k1 k2 a1 a2 b1 b2 : Int) : (binOp .neq 71 (.agg #[.int .i64 t, .int .i64 k1, .int .i64 k2, .int .i64 a1, .int .i64 a2, .int .i64 b1, .int .i64 b2]) (.agg #[.int .i64 t, .int .i64 k1, .int .i64 k2, .int .i64 a1, .int .i64 a2, .int .i64 b1, .int .i64 b2])).run Try.prog w = .ok (.bool false) w := by
  go_simp

theorem ev7 {w : World} {g off i : Nat} {e : Ev} (h : ∀ j, j < 7 → w.cell? ⟨g, off + (i * 7 + j), none⟩ = (cellsE e)[j]?) :
    w.cell? ⟨g, off + i * 7, none⟩ = some (.int .i64 e.t) ∧ w.cell? ⟨g, off + i * 7 + 1, none⟩ = some (.int .i64 e.k1) ∧ w.cell? ⟨g, off + i * 7 + 2, none⟩ = some (.int .i64 e.k2) ∧ w.cell? ⟨g, off + i * 7 + 3, none⟩ = some (.int .i64 e.a1) ∧ w.cell? ⟨g, off + i * 7 + 4, none⟩ = some (.int .i64 e.a2) ∧ w.cell? ⟨g, off + i * 7 + 5, none⟩ = some (.int .i64 e.b1) ∧ w.cell? ⟨g, off + i * 7 + 6, none⟩ = some (.int .i64 e.b2) :=
  ⟨h 0 (by omega), h 1 (by omega), h 2 (by omega), h 3 (by omega), h 4 (by omega), h 5 (by omega), h 6 (by omega)⟩

set_option maxRecDepth 100000 in
set_option maxHeartbeats 1000000 in
theorem sameEv_any (ga gb P : Nat) (us vs : List Value) (M : List (List Ev)) (w : World) (ha : TabR w ga us M) (hb : TabR w gb vs M) (hP : P ≤ 1000) (hM : M.length = P) (hl : ∀ r ∈ M, r.length ≤ 1000) :
    Calls Try.prog 35 #[.slice (some ⟨ga, 0, none⟩) P P, .slice (some ⟨gb, 0, none⟩) P P] w fun e w' => e = .returned (.bool true) ∧ Below w.heap.size w w' := by
  have HA := hidE ha
  have HB := hidE hb
  have kn := kin_some w
  obtain ⟨kc, kf⟩ := kin_rules w
  clear ha hb
  have lga := HA.out.lt
  have lgb := HB.out.lt
  have nq := neq_ev
  go_enter Try.func35, Try.ntmps35
  go_wp2_with fail
  go_loopw [5] (fun i wr => ∃ m : Nat, m ≤ P ∧ i = .int .i64 m ∧ Hid (Below w.heap.size w wr)) (fun i _ => P - (intOf i).toNat)
  case atStart => exact ⟨0, Nat.zero_le _, rfl, Below.refl _ _⟩
  case round =>
    obtain ⟨m, hm, rfl, HW⟩ := hrel
    by_cases hlt : m < P
    · have hmM : m < M.length := by omega
      have hmu : m < us.length := by rw [HA.out.n1]; exact hmM
      have hmv : m < vs.length := by rw [HB.out.n1]; exact hmM
      have cu := (HA.out.c m hmu).trans (List.getElem?_eq_getElem hmu)
      have cv := (HB.out.c m hmv).trans (List.getElem?_eq_getElem hmv)
      have RU := hidE (HA.out.rows m us[m] M[m] (List.getElem?_eq_getElem hmu) (List.getElem?_eq_getElem hmM))
      have RV := hidE (HB.out.rows m vs[m] M[m] (List.getElem?_eq_getElem hmv) (List.getElem?_eq_getElem hmM))
      have lm := hl M[m] (List.getElem_mem hmM)
      generalize us[m] = u at *
      generalize vs[m] = v at *
      generalize M[m] = r at *
      obtain ⟨au, capu, rfl⟩ := rowG_shape RU.out
      obtain ⟨av, capv, rfl⟩ := rowG_shape RV.out
      have bne : ((r.length : Int) != (r.length : Int)) = false := by simp
      go_wp2_with fail
      refine wp_region_kin HW (by kernel_rfl) (by kernel_rfl) ?_
      repeat (go_big_quiet_step (fail))
      refine wpQuiet_nil ?_
      rintro _ ⟨pk, rfl⟩
      have HP := hidE pk.h
      generalize pk.w = wp at *
      clear HW
      go_wp2_with fail
      go_loopw [6] (fun i wr => ∃ k : Nat, k ≤ r.length ∧ i = .int .i64 k ∧ Hid (Below w.heap.size w wr)) (fun i _ => r.length - (intOf i).toNat)
      case atStart => exact ⟨0, Nat.zero_le _, rfl, HP⟩
      case round =>
        clear HP
        obtain ⟨k, hk, rfl, HW⟩ := hrel
        obtain ⟨hc, hf⟩ := rules HW
        by_cases hkl : k < r.length
        · obtain ⟨g1, o1, rfl, hcu, p1, p2, p3⟩ := rowOf_val cellsE_len RU.out k hkl
          obtain ⟨g2, o2, rfl, hcv, q1, q2, q3⟩ := rowOf_val cellsE_len RV.out k hkl
          generalize r[k] = ev at *
          obtain ⟨t, k1, k2, a1, a2, b1, b2⟩ := ev
          obtain ⟨e0, e1, e2, e3, e4, e5, e6⟩ := ev7 hcu
          obtain ⟨f0, f1, f2, f3, f4, f5, f6⟩ := ev7 hcv
          simp only at e0 e1 e2 e3 e4 e5 e6 f0 f1 f2 f3 f4 f5 f6
          clear hcu hcv
          unfold maxLen at p2 q2
          go_wp2_with fail
          clear hc hf
          refine wp_region_kin HW (by kernel_rfl) (by kernel_rfl) ?_
          repeat (go_big_quiet_step (fail))
          refine wpQuiet_nil ?_
          rintro _ ⟨pk, rfl⟩
          have HP := hidE pk.h
          generalize pk.w = wp at *
          go_wp2_with fail
          go_roundw
          case rel => exact ⟨k + 1, by omega, by go_num, HP⟩
          case measure => simp [intOf]; omega
        · have hkr : k = r.length := by omega
          go_wp2_with fail
          go_roundw
          case rel => exact ⟨m + 1, by omega, by go_num, HW⟩
          case measure => simp [intOf]; omega
    · have hmP : m = P := by omega
      subst hmP
      go_wp2_with fail
      go_ret
      exact ⟨rfl, HW.out⟩
end Go.Proofs.Ytepfpmagppckeab

/- The law SourceSays, over this seat's translation. Conditions: none. -/
import Derived.Test.YtepfpmagppckeabSrc5
import Derived.Test.YtepfpmagppckeabSame
namespace Go.Proofs.Ytepfpmagppckeab
open Go.ChangeShapes Go.WideShapes Go.ChangeAt Go.RowKit
set_option linter.unusedVariables false
set_option linter.unusedSimpArgs false

theorem same_errV (c : Int) (w : World) (hc : 0 ≤ c) : Calls Try.prog 16 #[errV c, .int .i64 c] w fun e w' => e = .returned (.bool true) ∧ w' = w := by
  by_cases h : c = 0
  · subst h
    exact same_nil 0 w
  · have e : errV c = .iface 109 (.int .i64 c) := by simp [errV, h]
    rw [e]
    have := same_err c c w (by omega)
    rw [show (c == c) = true from by simp] at this
    exact this

theorem nil_bad {go n k : Nat} (h : tabBad go (nilL n) k) : k = go := by
  rcases h with h | ⟨i, v, hv, ho⟩
  · exact h
  · rw [nil_get hv] at ho
    simp [Value.ownBlock] at ho

set_option maxRecDepth 100000 in
theorem sources_true (w : World) : Calls Try.prog 28 #[] w fun e w' => e = .returned (.bool true) ∧ Below w.heap.size w w' := by
  have N1 := hidE (fun w => snew_any 1 w (by decide) (by decide))
  go_enter Try.func28, Try.ntmps28
  go_wp2_with fail
  refine (N1.out _).mono ?_
  rintro e w1 ⟨gs, hgs, rfl, hg, hk, hb⟩
  have HB := hidE hb
  have HT := hidE (tab_new hk (Nat.le_refl _))
  have nb : ¬ tabBad w.heap.size (nilL 1) gs := fun h => by have := nil_bad h; omega
  have PO := hidE (put_ok w.heap.size gs w.heap.size 1 0 (nilL 1) (noEv 1) (.slice none 0 0) [] ⟨4, 0, 0, 0, 0, 0, 0⟩ w1 hg HT.out (by decide) rfl (by decide) rfl rfl (by decide) (by decide) nb)
  have HG := hidE hg
  unfold aggV at PO
  have ep : ((0 : Nat) : Int) = 0 := rfl
  rw [ep] at PO
  clear hb hg hk N1
  go_wp2_with fail
  refine PO.out.mono ?_
  rintro e w2 ⟨rfl, v', N, hN, hob, ht, hkp⟩
  have HB := hidE (HB.out.trans (keptB_below hkp (by have := HB.out.size; omega) (fun k hk => by
    rcases hk with h | h
    · omega
    · simp [Value.ownBlock] at h)))
  have HG := hidE (blk_kept HG.out hkp (fun h => by
    rcases h with h | h
    · omega
    · simp [Value.ownBlock] at h))
  have GT := hidE (sget_any gs w.heap.size 1 _ _ 0 0 w2 (by decide) rfl (by decide) HG.out (tabR_of ht))
  rw [show getM ((noEv 1).set 0 ([] ++ [⟨4, 0, 0, 0, 0, 0, 0⟩])) 0 0 = some ⟨4, 0, 0, 0, 0, 0, 0⟩ from rfl] at GT
  unfold gotV aggV at GT
  clear ht hkp hob PO HT
  go_wp2_with fail
  refine GT.out.mono ?_
  rintro e w3 ⟨rfl, hb⟩
  have HG := hidE (blk_below HG.out hb HG.out.lt)
  have HB := nxt HB hb
  clear hb GT
  have hA := (Below.refl w3.heap.size w3).alloc (Nat.le_refl _) (.cells #[.int .i64 4, .int .i64 0, .int .i64 0, .int .i64 0, .int .i64 0, .int .i64 0, .int .i64 0] 71)
  have PA := hidE (parts_any gs w.heap.size 1 _ (blk_below HG.out hA HG.out.lt))
  have HB := nxt HB hA
  clear hA
  go_wp2_with fail
  refine PA.out.mono ?_
  rintro e w4 ⟨rfl, rfl⟩
  go_wp2_with fail
  go_ret
  exact ⟨rfl, HB.out⟩

/-- an event of a part that is handed in -/
def cellsP (p : Int × Ev) : List Value := .int .i64 p.1 :: cellsE p.2
theorem cellsP_len (p : Int × Ev) : (cellsP p).length = 8 := rfl

theorem set_mem {M : List (List Ev)} {p : Nat} {r s : List Ev} {k : Nat} (h : ∀ q ∈ M, q.length ≤ k) (hs : s.length ≤ k) : ∀ q ∈ M.set p s, q.length ≤ k := fun q hq => by
  rcases List.mem_or_eq_of_mem_set hq with h1 | h1
  · exact h q h1
  · rw [h1]; exact hs

/-- what the law's loop keeps: the source's table and the law's own, with the same events, and no memory in common -/
structure SrcInv (w wr : World) (gs go gm P : Nat) (vs us : List Value) (M : List (List Ev)) : Prop where
  bl : Below w.heap.size w wr
  sg : BlkAt wr gs [.slice (some ⟨go, 0, none⟩) P P]
  ts : Tab w.heap.size wr go vs M
  tm : Tab w.heap.size wr gm us M
  sp : Sep go vs gm us
  n1 : ¬ tabBad go vs gs
  n2 : ¬ tabBad gm us gs
  gw : w.heap.size ≤ gs
  le : M.length = P
  mx : ∀ r ∈ M, r.length ≤ 40
theorem inv_below {w wr w' : World} {gs go gm P : Nat} {vs us : List Value} {M : List (List Ev)} (h : SrcInv w wr gs go gm P vs us M) (hb : Below wr.heap.size wr w') : SrcInv w w' gs go gm P vs us M :=
  ⟨h.bl.trans (hb.mono h.bl.size), blk_below h.sg hb h.sg.lt, tab_below h.ts hb, tab_below h.tm hb, h.sp, h.n1, h.n2, h.gw, h.le, h.mx⟩

set_option maxRecDepth 100000 in
set_option maxHeartbeats 2000000 in
theorem srcSays_walk (parts part nn : Int) (l : List (Int × Ev)) (u : Value) (w : World) (hu : RowG w u 8 l.length (rowOf cellsP l)) (hl : l.length ≤ maxLen) :
    Calls Try.prog 6 #[.int .i64 parts, u, .int .i64 part, .int .i64 nn] w fun e w' => e = .returned (.bool true) ∧ Below w.heap.size w w' := by
  obtain ⟨i0, hi, hz0, hz1, hz2⟩ := info_parts infoE
  obtain ⟨i1, hi1, hy0, hy1, hy2⟩ := info_parts infoEs
  obtain ⟨ao, lcap, rfl⟩ := rowG_shape hu
  have HU := hidE hu
  clear hu
  unfold maxLen at hl
  go_enter Try.func6, Try.ntmps6
  go_wp2_with fail
  refine (sources_true _).mono ?_
  rintro e w1 ⟨rfl, hb⟩
  have HB := hidE hb
  clear hb
  by_cases c1 : l.length ≤ 150
  case neg =>
    have d1' : decide (150 < (l.length : Int)) = true := by simp; omega
    go_wp2_with fail
    go_ret
    exact ⟨rfl, HB.out⟩
  have d1' : decide (150 < (l.length : Int)) = false := by simp; omega
  by_cases c4 : parts < 1 ∨ 3 < parts
  · have NB := hidE (fun w => snew_bad parts w c4)
    have SM := hidE (fun w => same_err 1 1 w (by decide))
    go_wp2_with fail
    refine (NB.out _).mono ?_
    rintro e w2 ⟨rfl, hb⟩
    have HB := nxt HB hb
    clear hb
    rcases c4 with c4 | c4
    · have d4 : decide (parts < 1) = true := by simp; omega
      go_wp2_with fail
      refine (SM.out _).mono ?_
      rintro e w3 ⟨rfl, rfl⟩
      go_wp2_with fail
      go_ret
      exact ⟨rfl, HB.out⟩
    · have d4 : decide (parts < 1) = false := by simp; omega
      have d5 : decide (3 < parts) = true := by simp; omega
      go_wp2_with fail
      refine (SM.out _).mono ?_
      rintro e w3 ⟨rfl, rfl⟩
      go_wp2_with fail
      go_ret
      exact ⟨rfl, HB.out⟩
  have d4 : decide (parts < 1) = false := by simp; omega
  have d5 : decide (3 < parts) = false := by simp; omega
  obtain ⟨P, rfl⟩ : ∃ P : Nat, parts = (P : Int) := ⟨parts.toNat, by omega⟩
  have p1 : 1 ≤ P := by omega
  have p3 : P ≤ 3 := by omega
  clear c4
  have NP := hidE (fun w => snew_any P w p1 p3)
  go_wp2_with fail
  refine (NP.out _).mono ?_
  rintro e w2 ⟨gs, hgs, rfl, hg, hk, hb⟩
  have PA := hidE (parts_any gs w1.heap.size P w2 hg)
  have hw1 := HB.out.size
  have HB := nxt HB hb
  have HG := hidE hg
  have HK := hidE hk
  obtain ⟨go, hgo⟩ : ∃ go, w1.heap.size = go := ⟨_, rfl⟩
  rw [hgo] at HG HK hgs hw1
  clear hb hg hk NP hgo
  have bnP : ((P : Int) != (P : Int)) = false := by simp
  go_wp2_with fail
  refine PA.out.mono ?_
  rintro e w3 ⟨rfl, rfl⟩
  go_wp2_with (at_make; go_must (refine wpList_make_full _ rfl _ _ 69 rfl w.heap.size 76 i1 (.slice none 0 0) 1 Try.underlying69 hi1 hy0 hy1 .i64 .i64 _ _ P rfl rfl rfl rfl (by rw [hy2]; omega) (by show _ ≤ 2 ^ 63 - 1; omega) HB.out.size ?_))
  intro w4 ho hgr
  have hMd : (madeCells #[Value.slice none 0 0] P).toList = nilL P := by
    rcases (by omega : P = 1 ∨ P = 2 ∨ P = 3) with rfl | rfl | rfl <;> kernel_rfl
  rw [hMd] at ho
  have hb4 : Below w3.heap.size w3 w4 := (Below.refl _ _).grown hgr (Nat.le_refl _) (fun k hk => by cases hk)
  have IV : Hid (SrcInv w w4 gs go w3.heap.size P (nilL P) (nilL P) (noEv P)) := by
    have l1 := HG.out.lt
    have l2 := HK.out.lt
    refine ⟨(nxt HB hb4).out, blk_below HG.out hb4 HG.out.lt, tab_new (blk_below HK.out hb4 HK.out.lt) hw1, tab_new (blk_of_owns ho) HB.out.size, fun k h1 h2 => ?_, fun h => ?_, fun h => ?_, by omega, by simp [noEv], fun r hr => ?_⟩
    · have := nil_bad h1
      have := nil_bad h2
      omega
    · have := nil_bad h
      omega
    · have := nil_bad h
      omega
    · rw [List.eq_of_mem_replicate hr]
      simp
  obtain ⟨gm, hgm⟩ : ∃ gm, w3.heap.size = gm := ⟨_, rfl⟩
  rw [hgm] at IV
  rw [hgm]
  clear ho hgr hMd hb4 HB HG HK PA hgm hgs hw1
  go_wp2_with fail
  go_loopw [13] (fun i wr => ∃ (n : Nat) (vs us : List Value) (M : List (List Ev)), n ≤ l.length ∧ i = .int .i64 n ∧ Hid (SrcInv w wr gs go gm P vs us M)) (fun i _ => l.length - (intOf i).toNat)
  case atStart => exact ⟨0, _, _, _, Nat.zero_le _, rfl, IV⟩
  case round =>
    clear IV
    obtain ⟨n, vs, us, M, hn, rfl, IV⟩ := hrel
    by_cases hlt : n < l.length
    case neg =>
      have hnl : n = l.length := by omega
      subst hnl
      have lM : ∀ r ∈ M, r.length ≤ 1000 := fun r hr => Nat.le_trans (IV.out.mx r hr) (by decide)
      have GT := hidE (sget_any gs go P vs M part nn wr (by omega) IV.out.le lM IV.out.sg (tabR_of IV.out.ts))
      have AL := hidE (fun (w' : World) (h : SrcInv w w' gs go gm P vs us M) => sall_any w.heap.size gs go P vs M w' h.sg h.ts p1 p3 h.le lM)
      have SE := hidE (fun (w' : World) ga xs (h1 : TabR w' ga xs M) (h2 : TabR w' gm us M) => sameEv_any ga gm P xs us M w' h1 h2 (by omega) IV.out.le lM)
      have nq := neq_ev
      rcases hg : getM M part nn with _ | ev
      · have hnone : part < 0 ∨ (P : Int) ≤ part ∨ nn < 0 ∨ ∃ (p n : Nat) (r : List Ev), part = p ∧ nn = n ∧ p < P ∧ M[p]? = some r ∧ r.length ≤ n := by
          by_cases h1 : part < 0
          · exact .inl h1
          by_cases h2 : (P : Int) ≤ part
          · exact .inr (.inl h2)
          by_cases h3 : nn < 0
          · exact .inr (.inr (.inl h3))
          have hp : part.toNat < M.length := by rw [IV.out.le]; omega
          refine .inr (.inr (.inr ⟨part.toNat, nn.toNat, M[part.toNat], by omega, by omega, by omega, List.getElem?_eq_getElem hp, ?_⟩))
          unfold getM at hg
          rw [if_pos (by omega), List.getElem?_eq_getElem hp] at hg
          simpa using hg
        rw [hg] at GT
        unfold gotV aggV zeroEv at GT
        simp only at GT
        clear hg
        go_wp2_with fail
        refine GT.out.mono ?_
        rintro e w5 ⟨rfl, hb⟩
        have IV := hidE (inv_below IV.out hb)
        clear hb GT
        have IV := hidE (inv_below IV.out ((Below.refl w5.heap.size w5).alloc (Nat.le_refl _) (.cells #[.int .i64 0, .int .i64 0, .int .i64 0, .int .i64 0, .int .i64 0, .int .i64 0, .int .i64 0] 71)))
        have e0 : ∀ j, j < 7 → (w5.alloc (.cells #[.int .i64 0, .int .i64 0, .int .i64 0, .int .i64 0, .int .i64 0, .int .i64 0, .int .i64 0] 71)).cell? ⟨w5.heap.size, j, none⟩ = some (.int .i64 0) := fun j hj => by
          rcases (by omega : j = 0 ∨ j = 1 ∨ j = 2 ∨ j = 3 ∨ j = 4 ∨ j = 5 ∨ j = 6) with rfl | rfl | rfl | rfl | rfl | rfl | rfl <;> go_simp
        have hcases : Hid ((part < 0 ∨ (P : Int) ≤ part ∨ nn < 0) ∨ ∃ (p n : Nat) (r : List Ev), part = p ∧ nn = n ∧ p < P ∧ M[p]? = some r ∧ r.length ≤ n) := by
          rcases hnone with h | h | h | h
          · exact .inl (.inl h)
          · exact .inl (.inr (.inl h))
          · exact .inl (.inr (.inr h))
          · exact .inr h
        clear hnone
        obtain ⟨y0, y1, y2, y3, y4, y5, y6⟩ := (⟨e0 0 (by omega), e0 1 (by omega), e0 2 (by omega), e0 3 (by omega), e0 4 (by omega), e0 5 (by omega), e0 6 (by omega)⟩ : _ ∧ _ ∧ _ ∧ _ ∧ _ ∧ _ ∧ _)
        clear e0
        rcases hcases.out with (h | h | h) | ⟨p, n, r, rfl, rfl, hpP, hr, hle⟩
        · have dz : decide (0 ≤ part) = false := by simp; omega
          go_wp2_with fail
          refine (AL.out _ IV.out).mono ?_
          rintro e w6 ⟨ga, xs, rfl, hta, hb⟩
          have IV := hidE (inv_below IV.out hb)
          have SX := hidE (SE.out w6 ga xs hta (tabR_of IV.out.tm))
          clear hb hta
          go_wp2_with fail
          refine SX.out.mono ?_
          rintro e w7 ⟨rfl, hb⟩
          have HB := nxt (hidE IV.out.bl) hb
          clear hb
          go_wp2_with fail
          go_ret
          exact ⟨rfl, HB.out⟩
        · have dz : decide (part < (P : Int)) = false := by simp; omega
          have dz0 : decide (0 ≤ part) = true := by simp; omega
          go_wp2_with fail
          refine (AL.out _ IV.out).mono ?_
          rintro e w6 ⟨ga, xs, rfl, hta, hb⟩
          have IV := hidE (inv_below IV.out hb)
          have SX := hidE (SE.out w6 ga xs hta (tabR_of IV.out.tm))
          clear hb hta
          go_wp2_with fail
          refine SX.out.mono ?_
          rintro e w7 ⟨rfl, hb⟩
          have HB := nxt (hidE IV.out.bl) hb
          clear hb
          go_wp2_with fail
          go_ret
          exact ⟨rfl, HB.out⟩
        · have dz : decide (0 ≤ nn) = false := by simp; omega
          by_cases g1 : 0 ≤ part
          · have dg1 : decide (0 ≤ part) = true := by simp [g1]
            by_cases g2 : part < (P : Int)
            · have dg2 : decide (part < (P : Int)) = true := by simp [g2]
              go_wp2_with fail
              refine (AL.out _ IV.out).mono ?_
              rintro e w6 ⟨ga, xs, rfl, hta, hb⟩
              have IV := hidE (inv_below IV.out hb)
              have SX := hidE (SE.out w6 ga xs hta (tabR_of IV.out.tm))
              clear hb hta
              go_wp2_with fail
              refine SX.out.mono ?_
              rintro e w7 ⟨rfl, hb⟩
              have HB := nxt (hidE IV.out.bl) hb
              clear hb
              go_wp2_with fail
              go_ret
              exact ⟨rfl, HB.out⟩
            · have dg2 : decide (part < (P : Int)) = false := by simp; omega
              go_wp2_with fail
              refine (AL.out _ IV.out).mono ?_
              rintro e w6 ⟨ga, xs, rfl, hta, hb⟩
              have IV := hidE (inv_below IV.out hb)
              have SX := hidE (SE.out w6 ga xs hta (tabR_of IV.out.tm))
              clear hb hta
              go_wp2_with fail
              refine SX.out.mono ?_
              rintro e w7 ⟨rfl, hb⟩
              have HB := nxt (hidE IV.out.bl) hb
              clear hb
              go_wp2_with fail
              go_ret
              exact ⟨rfl, HB.out⟩
          · have dg1 : decide (0 ≤ part) = false := by simp; omega
            go_wp2_with fail
            refine (AL.out _ IV.out).mono ?_
            rintro e w6 ⟨ga, xs, rfl, hta, hb⟩
            have IV := hidE (inv_below IV.out hb)
            have SX := hidE (SE.out w6 ga xs hta (tabR_of IV.out.tm))
            clear hb hta
            go_wp2_with fail
            refine SX.out.mono ?_
            rintro e w7 ⟨rfl, hb⟩
            have HB := nxt (hidE IV.out.bl) hb
            clear hb
            go_wp2_with fail
            go_ret
            exact ⟨rfl, HB.out⟩
        · have hpu : p < us.length := by rw [IV.out.tm.n1, IV.out.le]; exact hpP
          have cm := IV.out.tm.bk.c p hpu
          obtain ⟨v, hv⟩ : ∃ v, us[p]? = some v := ⟨us[p], List.getElem?_eq_getElem hpu⟩
          rw [hv] at cm
          obtain ⟨ao2, cap2, rfl⟩ := owns_shapeE (IV.out.tm.rows p v r hv hr)
          have dz : decide ((n : Int) < (r.length : Int)) = false := by simp; omega
          have dz0 : decide (0 ≤ (p : Int)) = true := by simp
          have dz1 : decide ((p : Int) < (P : Int)) = true := by simp; omega
          have dz2 : decide (0 ≤ (n : Int)) = true := by simp
          clear hv hr
          go_wp2_with fail
          refine (AL.out _ IV.out).mono ?_
          rintro e w6 ⟨ga, xs, rfl, hta, hb⟩
          have IV := hidE (inv_below IV.out hb)
          have SX := hidE (SE.out w6 ga xs hta (tabR_of IV.out.tm))
          clear hb hta
          go_wp2_with fail
          refine SX.out.mono ?_
          rintro e w7 ⟨rfl, hb⟩
          have HB := nxt (hidE IV.out.bl) hb
          clear hb
          go_wp2_with fail
          go_ret
          exact ⟨rfl, HB.out⟩
      · obtain ⟨p, n, r, rfl, rfl, hpP, hr, hn2⟩ : ∃ (p n : Nat) (r : List Ev), part = p ∧ nn = n ∧ p < P ∧ M[p]? = some r ∧ r[n]? = some ev := by
          unfold getM at hg
          split at hg
          · rename_i h9
            rcases hq : M[part.toNat]? with _ | r
            · rw [hq] at hg
              cases hg
            · rw [hq] at hg
              have := (List.getElem?_eq_some_iff.1 hq).1
              rw [IV.out.le] at this
              exact ⟨part.toNat, nn.toNat, r, by omega, by omega, this, hq, hg⟩
          · cases hg
        rw [hg] at GT
        obtain ⟨t, k1, k2, a1, a2, b1, b2⟩ := ev
        unfold gotV aggV at GT
        simp only at GT
        clear hg
        have hnr : n < r.length := (List.getElem?_eq_some_iff.1 hn2).1
        have hre : r[n] = ⟨t, k1, k2, a1, a2, b1, b2⟩ := (List.getElem?_eq_some_iff.1 hn2).2
        have hpu : p < us.length := by rw [IV.out.tm.n1, IV.out.le]; exact hpP
        obtain ⟨v, hv⟩ : ∃ v, us[p]? = some v := ⟨us[p], List.getElem?_eq_getElem hpu⟩
        obtain ⟨ao2, cap2, rfl⟩ := owns_shapeE (IV.out.tm.rows p v r hv hr)
        obtain ⟨g2, o2, rfl, -, q1, q2, q3⟩ := rowOf_val cellsE_len (rowG_of_owns (IV.out.tm.rows p _ r hv hr)) n hnr
        unfold maxLen at q2
        have dz : decide ((n : Int) < (r.length : Int)) = true := by simp; omega
        have dz0 : decide (0 ≤ (p : Int)) = true := by simp
        have dz1 : decide ((p : Int) < (P : Int)) = true := by simp; omega
        have dz2 : decide (0 ≤ (n : Int)) = true := by simp
        have lr : r.length ≤ 40 := IV.out.mx r (List.mem_of_getElem? hr)
        go_wp2_with fail
        refine GT.out.mono ?_
        rintro e w5 ⟨rfl, hb⟩
        have IV := hidE (inv_below IV.out hb)
        clear hb GT
        have IV := hidE (inv_below IV.out ((Below.refl w5.heap.size w5).alloc (Nat.le_refl _) (.cells #[.int .i64 t, .int .i64 k1, .int .i64 k2, .int .i64 a1, .int .i64 a2, .int .i64 b1, .int .i64 b2] 71)))
        have HX := hidE (blk_new7 w5 ⟨t, k1, k2, a1, a2, b1, b2⟩ 71)
        simp only at HX
        have y0 : (w5.alloc (.cells #[.int .i64 t, .int .i64 k1, .int .i64 k2, .int .i64 a1, .int .i64 a2, .int .i64 b1, .int .i64 b2] 71)).cell? ⟨w5.heap.size, 0, none⟩ = some (.int .i64 t) := HX.out.c 0 (by simp [cellsE])
        have y1 : (w5.alloc (.cells #[.int .i64 t, .int .i64 k1, .int .i64 k2, .int .i64 a1, .int .i64 a2, .int .i64 b1, .int .i64 b2] 71)).cell? ⟨w5.heap.size, 1, none⟩ = some (.int .i64 k1) := HX.out.c 1 (by simp [cellsE])
        have y2 : (w5.alloc (.cells #[.int .i64 t, .int .i64 k1, .int .i64 k2, .int .i64 a1, .int .i64 a2, .int .i64 b1, .int .i64 b2] 71)).cell? ⟨w5.heap.size, 2, none⟩ = some (.int .i64 k2) := HX.out.c 2 (by simp [cellsE])
        have y3 : (w5.alloc (.cells #[.int .i64 t, .int .i64 k1, .int .i64 k2, .int .i64 a1, .int .i64 a2, .int .i64 b1, .int .i64 b2] 71)).cell? ⟨w5.heap.size, 3, none⟩ = some (.int .i64 a1) := HX.out.c 3 (by simp [cellsE])
        have y4 : (w5.alloc (.cells #[.int .i64 t, .int .i64 k1, .int .i64 k2, .int .i64 a1, .int .i64 a2, .int .i64 b1, .int .i64 b2] 71)).cell? ⟨w5.heap.size, 4, none⟩ = some (.int .i64 a2) := HX.out.c 4 (by simp [cellsE])
        have y5 : (w5.alloc (.cells #[.int .i64 t, .int .i64 k1, .int .i64 k2, .int .i64 a1, .int .i64 a2, .int .i64 b1, .int .i64 b2] 71)).cell? ⟨w5.heap.size, 5, none⟩ = some (.int .i64 b1) := HX.out.c 5 (by simp [cellsE])
        have y6 : (w5.alloc (.cells #[.int .i64 t, .int .i64 k1, .int .i64 k2, .int .i64 a1, .int .i64 a2, .int .i64 b1, .int .i64 b2] 71)).cell? ⟨w5.heap.size, 6, none⟩ = some (.int .i64 b2) := HX.out.c 6 (by simp [cellsE])
        have lx := HX.out.lt
        have cm := (IV.out.tm.bk.c p hpu).trans hv
        have lgm := IV.out.tm.bk.lt
        obtain ⟨g3, o3, e3, hce, -, -, lg2⟩ := rowOf_val cellsE_len (rowG_of_owns (IV.out.tm.rows p _ r hv hr)) n hnr
        simp only [Option.some.injEq, Addr.mk.injEq, and_true] at e3
        obtain ⟨rfl, rfl⟩ := e3
        rw [hre] at hce
        obtain ⟨z0, z1, z2, z3, z4, z5, z6⟩ := ev7 hce
        simp only at z0 z1 z2 z3 z4 z5 z6
        clear hce hv hr hn2 hre HX
        go_wp2_with fail
        generalize (w5.alloc (.cells #[.int .i64 t, .int .i64 k1, .int .i64 k2, .int .i64 a1, .int .i64 a2, .int .i64 b1, .int .i64 b2] 71)) = wx at *
        have kn := kin_some wx
        obtain ⟨kc, kf⟩ := kin_rules wx
        have HR9 : Hid (Below wx.heap.size wx wx) := Below.refl _ _
        refine wp_region_kin HR9 (by kernel_rfl) (by kernel_rfl) ?_
        repeat (go_big_quiet_step (fail))
        refine wpQuiet_nil ?_
        rintro _ ⟨pk, rfl⟩
        have IV := hidE (inv_below IV.out pk.h)
        generalize pk.w = wp at *
        clear kc kf kn HR9 y0 y1 y2 y3 y4 y5 y6 z0 z1 z2 z3 z4 z5 z6 cm
        go_wp2_with fail
        refine (AL.out _ IV.out).mono ?_
        rintro e w6 ⟨ga, xs, rfl, hta, hb⟩
        have IV := hidE (inv_below IV.out hb)
        have SX := hidE (SE.out w6 ga xs hta (tabR_of IV.out.tm))
        clear hb hta
        go_wp2_with fail
        refine SX.out.mono ?_
        rintro e w7 ⟨rfl, hb⟩
        have HB := nxt (hidE IV.out.bl) hb
        clear hb
        go_wp2_with fail
        go_ret
        exact ⟨rfl, HB.out⟩
    case pos =>
      obtain ⟨g, off, rfl, hcell0, q1, q2, q3⟩ := rowOf_val cellsP_len HU.out n hlt
      generalize l[n] = pe at *
      obtain ⟨pp, ⟨t, k1, k2, a1, a2, b1, b2⟩⟩ := pe
      have hcell : ∀ (w' : World), Below w.heap.size w w' → ∀ j, j < 8 → w'.cell? ⟨g, off + (n * 8 + j), none⟩ = (cellsP (pp, ⟨t, k1, k2, a1, a2, b1, b2⟩))[j]? := fun w' hb j hj => (hb.cell (p := ⟨g, off + (n * 8 + j), none⟩) q3).trans (hcell0 j hj)
      have HCE := hidE (fun (w' : World) (hb : Below w.heap.size w w') => (⟨hcell w' hb 0 (by omega), hcell w' hb 1 (by omega), hcell w' hb 2 (by omega), hcell w' hb 3 (by omega), hcell w' hb 4 (by omega), hcell w' hb 5 (by omega), hcell w' hb 6 (by omega), hcell w' hb 7 (by omega)⟩ :
        w'.cell? ⟨g, off + n * 8, none⟩ = some (.int .i64 pp) ∧ w'.cell? ⟨g, off + n * 8 + 1, none⟩ = some (.int .i64 t) ∧ w'.cell? ⟨g, off + n * 8 + 2, none⟩ = some (.int .i64 k1) ∧ w'.cell? ⟨g, off + n * 8 + 3, none⟩ = some (.int .i64 k2) ∧ w'.cell? ⟨g, off + n * 8 + 4, none⟩ = some (.int .i64 a1) ∧ w'.cell? ⟨g, off + n * 8 + 5, none⟩ = some (.int .i64 a2) ∧ w'.cell? ⟨g, off + n * 8 + 6, none⟩ = some (.int .i64 b1) ∧ w'.cell? ⟨g, off + n * 8 + 7, none⟩ = some (.int .i64 b2)))
      clear hcell hcell0
      unfold maxLen at q2
      have EF := hidE (fun w => evFault_is ⟨t, k1, k2, a1, a2, b1, b2⟩ w)
      have SC := hidE (fun w => srcCheck_any ⟨t, k1, k2, a1, a2, b1, b2⟩ w)
      have EC := hidE (evC_cases ⟨t, k1, k2, a1, a2, b1, b2⟩)
      have SV := hidE (fun w => same_errV (evC ⟨t, k1, k2, a1, a2, b1, b2⟩) w (by have := EC.out; omega))
      have PN := hidE (fun w h hp => put_none gs go P pp ⟨t, k1, k2, a1, a2, b1, b2⟩ w h hp)
      have PB := hidE (fun p w h hp hx => put_bad gs go P p ⟨t, k1, k2, a1, a2, b1, b2⟩ w h hp hx)
      have PF := hidE (fun p r w h ht hr hl hp hx => put_full gs go P p vs M r ⟨t, k1, k2, a1, a2, b1, b2⟩ w h ht (by omega) IV.out.le hp hr hl hx)
      have PO := hidE (fun p v r wq h ht hv hr hl hp hx hgs => put_ok w.heap.size gs go P p vs M v r ⟨t, k1, k2, a1, a2, b1, b2⟩ wq h ht (by omega) IV.out.le hp hv hr hl hx hgs)
      generalize hc : evC ⟨t, k1, k2, a1, a2, b1, b2⟩ = c at *
      unfold aggV at EF SC PN PB PF PO
      simp only at EF SC PN PB PF PO
      obtain ⟨x0, x1, x2, x3, x4, x5, x6, x7⟩ := HCE.out wr IV.out.bl
      go_wp2_with fail
      refine (EF.out _).mono ?_
      rintro e w5 ⟨rfl, hb⟩
      have IV := hidE (inv_below IV.out hb)
      clear hb x0 x1 x2 x3 x4 x5 x6 x7
      obtain ⟨x0, x1, x2, x3, x4, x5, x6, x7⟩ := HCE.out w5 IV.out.bl
      go_wp2_with fail
      refine (SC.out _).mono ?_
      rintro e w6 ⟨rfl, hb⟩
      have IV := hidE (inv_below IV.out hb)
      clear hb x0 x1 x2 x3 x4 x5 x6 x7
      go_wp2_with fail
      refine (SV.out _).mono ?_
      rintro e w7 ⟨rfl, rfl⟩
      obtain ⟨x0, x1, x2, x3, x4, x5, x6, x7⟩ := HCE.out w7 IV.out.bl
      clear EF SC
      by_cases hp : pp < 0 ∨ (P : Int) ≤ pp
      · have PX := hidE (PN.out w7 IV.out.sg hp)
        have S5 := hidE (fun w => same_errV 5 w (by decide))
        rcases hp with hp | hp
        · have dp : decide (pp < 0) = true := by simp; omega
          go_wp2_with fail
          refine PX.out.mono ?_
          rintro e w8 ⟨rfl, hb⟩
          have IV := hidE (inv_below IV.out hb)
          clear hb
          go_wp2_with fail
          refine (S5.out _).mono ?_
          rintro e w9 ⟨rfl, rfl⟩
          go_wp2_with fail
          go_roundw
          case rel => exact ⟨n + 1, vs, us, M, by omega, by go_num, IV⟩
          case measure => simp [intOf]; omega
        · have dp : decide (pp < 0) = false := by simp; omega
          have dp2 : decide ((P : Int) ≤ pp) = true := by simp; omega
          go_wp2_with fail
          refine PX.out.mono ?_
          rintro e w8 ⟨rfl, hb⟩
          have IV := hidE (inv_below IV.out hb)
          clear hb
          go_wp2_with fail
          refine (S5.out _).mono ?_
          rintro e w9 ⟨rfl, rfl⟩
          go_wp2_with fail
          go_roundw
          case rel => exact ⟨n + 1, vs, us, M, by omega, by go_num, IV⟩
          case measure => simp [intOf]; omega
      have dp : decide (pp < 0) = false := by simp; omega
      have dp2 : decide ((P : Int) ≤ pp) = false := by simp; omega
      obtain ⟨p, rfl⟩ : ∃ p : Nat, pp = (p : Int) := ⟨pp.toNat, by omega⟩
      have hpP : p < P := by omega
      by_cases hc0 : c = 0
      case neg =>
        have dc : (c == 0) = false := by simp [hc0]
        have PX := hidE (PB.out p w7 IV.out.sg hpP hc0)
        go_wp2_with fail
        refine PX.out.mono ?_
        rintro e w8 ⟨rfl, hb⟩
        have IV := hidE (inv_below IV.out hb)
        clear hb
        go_wp2_with fail
        refine (SV.out _).mono ?_
        rintro e w9 ⟨rfl, rfl⟩
        go_wp2_with fail
        go_roundw
        case rel => exact ⟨n + 1, vs, us, M, by omega, by go_num, IV⟩
        case measure => simp [intOf]; omega
      subst hc0
      have hpM : p < M.length := by rw [IV.out.le]; exact hpP
      have hpu : p < us.length := by rw [IV.out.tm.n1]; exact hpM
      have hpv : p < vs.length := by rw [IV.out.ts.n1]; exact hpM
      obtain ⟨v, hv⟩ : ∃ v, us[p]? = some v := ⟨us[p], List.getElem?_eq_getElem hpu⟩
      obtain ⟨sv, hsv⟩ : ∃ v, vs[p]? = some v := ⟨vs[p], List.getElem?_eq_getElem hpv⟩
      obtain ⟨r, hr⟩ : ∃ r, M[p]? = some r := ⟨M[p], List.getElem?_eq_getElem hpM⟩
      obtain ⟨ao, cap, rfl⟩ := owns_shapeE (IV.out.tm.rows p v r hv hr)
      have HV := hidE hv
      have HSV := hidE hsv
      have HR := hidE hr
      have c1 : w7.cell? ⟨gm, p, none⟩ = some (.slice ao r.length cap) := (IV.out.tm.bk.c p hpu).trans hv
      have lr : r.length ≤ 40 := IV.out.mx r (List.mem_of_getElem? hr)
      have lgm := IV.out.tm.bk.lt
      clear hv hsv hr
      by_cases h40 : r.length = 40
      · have d40 : ((r.length : Int) == 40) = true := by simp; omega
        have PX := hidE (PF.out p r w7 IV.out.sg (tabR_of IV.out.ts) HR.out h40 hpP rfl)
        have S6 := hidE (fun w => same_errV 6 w (by decide))
        go_wp2_with fail
        refine PX.out.mono ?_
        rintro e w8 ⟨rfl, hb⟩
        have IV := hidE (inv_below IV.out hb)
        clear hb
        go_wp2_with fail
        refine (S6.out _).mono ?_
        rintro e w9 ⟨rfl, rfl⟩
        go_wp2_with fail
        go_roundw
        case rel => exact ⟨n + 1, vs, us, M, by omega, by go_num, IV⟩
        case measure => simp [intOf]; omega
      · have d40 : ((r.length : Int) == 40) = false := by simp; omega
        have hr40 : r.length < 40 := by omega
        have ngm : ¬ (Value.slice ao r.length cap).ownBlock = some gm := IV.out.tm.out p _ HV.out
        have lg : g < w7.heap.size := Nat.lt_of_lt_of_le q3 IV.out.bl.size
        have ng : ¬ (Value.slice ao r.length cap).ownBlock = some g := fun e => by
          have := (tab_lt IV.out.tm (.inr ⟨p, _, HV.out, e⟩)).1
          omega
        have hd0 : Below w7.heap.size w7 { w7 with drawn := w7.drawn + 1 } := (Below.refl _ _).drew
        have hS : KeptB w7 { w7 with drawn := w7.drawn + 1 } (fun k => (Value.slice ao r.length cap).ownBlock = some k) := keptB_of_below hd0
        have HBA := hidE (hd0.alloc hd0.size (.cells #[.int .i64 t, .int .i64 k1, .int .i64 k2, .int .i64 a1, .int .i64 a2, .int .i64 b1, .int .i64 b2] 71))
        have SA : Hid (KeptB w7 (({ w7 with drawn := w7.drawn + 1 } : World).alloc (.cells #[.int .i64 t, .int .i64 k1, .int .i64 k2, .int .i64 a1, .int .i64 a2, .int .i64 b1, .int .i64 b2] 71)) (fun k => (Value.slice ao r.length cap).ownBlock = some k)) := keptB_of_below HBA.out
        have HRO := hidE (own_keep (IV.out.tm.rows p _ r HV.out HR.out) HBA.out (Nat.le_refl _))
        have HBS : Hid (w.heap.size ≤ (({ w7 with drawn := w7.drawn + 1 } : World).alloc (.cells #[.int .i64 t, .int .i64 k1, .int .i64 k2, .int .i64 a1, .int .i64 a2, .int .i64 b1, .int .i64 b2] 71)).heap.size) := hidE (Nat.le_trans IV.out.bl.size HBA.out.size)
        have HM2 := hidE IV.out.tm
        clear hd0
        go_wp2_with fail
        refine wp_region_last (fun w' => KeptB w7 w' (fun k => (Value.slice ao r.length cap).ownBlock = some k)) 14 (by kernel_rfl) ?_
        generalize hwd : ({ w7 with drawn := w7.drawn + 1 } : World) = wd at *
        clear hwd
        refine last_take (i := 0) (v := .slice (some ⟨gm, 0, none⟩) P P) (L := #[true, false, false, false, false, false, false, false, false, false, false, false, false, false, false]) [13, 14] rfl (by kernel_rfl) (by kernel_rfl) (by kernel_rfl) (by kernel_rfl) (by kernel_rfl) (fun c a w h => h) (Or.inl ⟨by kernel_rfl, fun wq hq => by go_simp⟩) hS (by kernel_rfl) ?_
        refine last_take (i := 1) (v := .int .i64 (p : Int)) (L := #[true, true, false, false, false, false, false, false, false, false, false, false, false, false, false]) [13, 14] rfl (by kernel_rfl) (by kernel_rfl) (by kernel_rfl) (by kernel_rfl) (by kernel_rfl) (fun c a w h => h) (Or.inl ⟨by kernel_rfl, fun wq hq => by go_simp⟩) hS (by kernel_rfl) ?_
        refine last_take (i := 2) (v := .slice (some ⟨gm, 0, none⟩) P P) (L := #[true, true, true, false, false, false, false, false, false, false, false, false, false, false, false]) [4, 5, 12, 14] rfl (by kernel_rfl) (by kernel_rfl) (by kernel_rfl) (by kernel_rfl) (by kernel_rfl) (fun c a w h => h) (Or.inl ⟨by kernel_rfl, fun wq hq => by go_simp⟩) hS (by kernel_rfl) ?_
        refine last_take (i := 3) (v := .int .i64 (p : Int)) (L := #[true, true, true, true, false, false, false, false, false, false, false, false, false, false, false]) [4, 5, 12, 14] rfl (by kernel_rfl) (by kernel_rfl) (by kernel_rfl) (by kernel_rfl) (by kernel_rfl) (fun c a w h => h) (Or.inl ⟨by kernel_rfl, fun wq hq => by go_simp⟩) hS (by kernel_rfl) ?_
        refine last_take (i := 4) (v := .pointer (some ⟨gm, p, none⟩)) (L := #[true, true, true, true, true, false, false, false, false, false, false, false, false, false, false]) [5, 12, 14] rfl (by kernel_rfl) (by kernel_rfl) (by kernel_rfl) (by kernel_rfl) (by kernel_rfl) (fun c a w h => h) (Or.inl ⟨by kernel_rfl, fun wq hq => by go_simp⟩) hS (by kernel_rfl) ?_
        refine last_take (i := 5) (v := .slice ao r.length cap) (L := #[true, true, true, true, true, true, false, false, false, false, false, false, false, false, false]) [12, 14] rfl (by kernel_rfl) (by kernel_rfl) (by kernel_rfl) (by kernel_rfl) (by kernel_rfl) (fun c a w h => h) (Or.inl ⟨by kernel_rfl, fun wq hq => by have q := kept_cell hq (p) lgm ngm; rw [c1] at q; go_simp⟩) hS (by kernel_rfl) ?_
        refine last_take (i := 6) (v := .slice (some ⟨g, off, none⟩) l.length lcap) (L := #[true, true, true, true, true, true, true, false, false, false, false, false, false, false, false]) [8, 9, 10, 11, 12, 14] rfl (by kernel_rfl) (by kernel_rfl) (by kernel_rfl) (by kernel_rfl) (by kernel_rfl) (fun c a w h => h) (Or.inl ⟨by kernel_rfl, fun wq hq => by go_simp⟩) hS (by kernel_rfl) ?_
        refine last_take (i := 7) (v := .int .i64 (n : Int)) (L := #[true, true, true, true, true, true, true, true, false, false, false, false, false, false, false]) [8, 9, 10, 11, 12, 14] rfl (by kernel_rfl) (by kernel_rfl) (by kernel_rfl) (by kernel_rfl) (by kernel_rfl) (fun c a w h => h) (Or.inl ⟨by kernel_rfl, fun wq hq => by go_simp⟩) hS (by kernel_rfl) ?_
        refine last_take (i := 8) (v := .pointer (some ⟨g, off + n * 8, none⟩)) (L := #[true, true, true, true, true, true, true, true, true, false, false, false, false, false, false]) [9, 10, 11, 12, 14] rfl (by kernel_rfl) (by kernel_rfl) (by kernel_rfl) (by kernel_rfl) (by kernel_rfl) (fun c a w h => h) (Or.inl ⟨by kernel_rfl, fun wq hq => by go_simp⟩) hS (by kernel_rfl) ?_
        refine last_take (i := 9) (v := .pointer (some ⟨g, off + n * 8 + 1, none⟩)) (L := #[true, true, true, true, true, true, true, true, true, true, false, false, false, false, false]) [10, 11, 12, 14] rfl (by kernel_rfl) (by kernel_rfl) (by kernel_rfl) (by kernel_rfl) (by kernel_rfl) (fun c a w h => h) (Or.inl ⟨by kernel_rfl, fun wq hq => by go_simp⟩) hS (by kernel_rfl) ?_
        refine last_take (i := 10) (v := .agg #[.int .i64 t, .int .i64 k1, .int .i64 k2, .int .i64 a1, .int .i64 a2, .int .i64 b1, .int .i64 b2]) (L := #[true, true, true, true, true, true, true, true, true, true, true, false, false, false, false]) [11, 12, 14] rfl (by kernel_rfl) (by kernel_rfl) (by kernel_rfl) (by kernel_rfl) (by kernel_rfl) (fun c a w h => h) (Or.inl ⟨by kernel_rfl, fun wq hq => by have q0 := kept_cell hq (off + n * 8 + 1) lg ng; rw [x1] at q0; have q1 := kept_cell hq (off + n * 8 + 2) lg ng; rw [x2] at q1; have q2 := kept_cell hq (off + n * 8 + 3) lg ng; rw [x3] at q2; have q3 := kept_cell hq (off + n * 8 + 4) lg ng; rw [x4] at q3; have q4 := kept_cell hq (off + n * 8 + 5) lg ng; rw [x5] at q4; have q5 := kept_cell hq (off + n * 8 + 6) lg ng; rw [x6] at q5; have q6 := kept_cell hq (off + n * 8 + 7) lg ng; rw [x7] at q6; go_simp⟩) hS (by kernel_rfl) ?_
        refine last_go (i := 11) (L := #[true, true, true, true, true, true, true, true, true, true, true, true, false, false, false]) (by kernel_rfl) rfl (by kernel_rfl) (by kernel_rfl) ?_
        intro K' hK
        go_simp
        refine hK _ _ ⟨fun _ => SA.out, ?_⟩
        clear hK
        refine last_go (i := 12) (L := #[true, true, true, true, true, true, true, true, true, true, true, true, true, false, false]) (by kernel_rfl) rfl (by kernel_rfl) (by kernel_rfl) ?_
        intro K' hK
        refine op_append_own (.tmp 111) (.tmp 117) 76 rfl w.heap.size 71 i0 (.agg #[.int .i64 0, .int .i64 0, .int .i64 0, .int .i64 0, .int .i64 0, .int .i64 0, .int .i64 0]) 7 56 Try.underlying76 hi hz0 hz1 hz2 rfl (by decide) (.slice ao r.length cap) r.length (rowOf cellsE r) (by go_simp) HRO.out ⟨wd.heap.size, 0, none⟩ 1 1 (cellsE ⟨t, k1, k2, a1, a2, b1, b2⟩) (by go_simp) rfl (cells7 wd ⟨t, k1, k2, a1, a2, b1, b2⟩ wd.heap.size 71 rfl) (by simp [cellsE, Value.oneCell']) (by show _ ≤ 2 ^ 63 - 1; omega) (by omega) HBS.out ?_
        intro v' w4 ho hg hob
        obtain ⟨ao', cap', rfl⟩ := owns_shapeE ho
        obtain ⟨hT1, hT2, hT3⟩ := tab_app HM2.out ⟨t, k1, k2, a1, a2, b1, b2⟩ HV.out HR.out HBA.out ho hg hob
        have HK4 := hidE (keptB_grown SA.out hg (fun k hk _ => hk))
        have BK4 := hidE hT1
        have HT4 := hidE hT2
        have KP := hidE hT3
        have HOB := hidE hob
        refine hK _ _ ⟨fun _ => HK4.out, ?_⟩
        clear hK ho hg hob hT1 hT2 hT3
        refine last_go (i := 13) (L := #[true, true, true, true, true, true, true, true, true, true, true, true, true, true, false]) (by kernel_rfl) rfl (by kernel_rfl) (by kernel_rfl) ?_
        intro K' hK
        go_simp
        refine hK _ _ ⟨fun _ => HK4.out, ?_⟩
        clear hK
        refine last_go (i := 14) (L := #[true, true, true, true, true, true, true, true, true, true, true, true, true, true, true]) (by kernel_rfl) rfl (by kernel_rfl) (by kernel_rfl) ?_
        intro K' hK
        have cy := BK4.out.c p hpu
        rw [HV.out] at cy
        have fy := BK4.out.fz p
        go_simp
        refine hK _ _ ⟨fun h => absurd rfl h, ?_⟩
        clear hK cy fy
        refine last_done (by kernel_rfl) ?_ _
        have bad_tm : ∀ k, (k = gm ∨ (Value.slice ao r.length cap).ownBlock = some k) → tabBad gm us k := fun k hk => by
          rcases hk with h | h
          · exact .inl h
          · exact .inr ⟨p, _, HV.out, h⟩
        have TS := hidE (tab_kept IV.out.ts KP.out (fun k h1 h2 => IV.out.sp k h1 (bad_tm k h2)))
        have SG := hidE (blk_kept IV.out.sg KP.out (fun h2 => IV.out.n2 (bad_tm gs h2)))
        have BL := hidE (IV.out.bl.trans (keptB_below KP.out IV.out.bl.size (fun k hk => (tab_lt IV.out.tm (bad_tm k hk)).1)))
        have hw78 := KP.out.b0.size
        have hN1 := HBA.out.size
        clear HK4 BK4 x0 x1 x2 x3 x4 x5 x6 x7 c1 hS SA HRO HBS HM2 KP
        generalize w4.setCell ⟨gm, p, none⟩ (.slice ao' (r.length + 1) cap') = w8 at *
        obtain ⟨x0, x1, x2, x3, x4, x5, x6, x7⟩ := HCE.out w8 BL.out
        have PX := hidE (PO.out p sv r w8 SG.out TS.out HSV.out HR.out hr40 hpP (by first | trivial | rfl) IV.out.n1)
        have S0 := hidE (fun w => same_nil 0 w)
        go_wp2_with fail
        refine PX.out.mono ?_
        rintro e w9 ⟨rfl, v2, N2, hN2, hob2, ht2, hkp2⟩
        have bad_ts : ∀ k, (k = go ∨ sv.ownBlock = some k) → tabBad go vs k := fun k hk => by
          rcases hk with h | h
          · exact .inl h
          · exact .inr ⟨p, _, HSV.out, h⟩
        have IVn : Hid (SrcInv w w9 gs go gm P (vs.set p v2) (us.set p (.slice ao' (r.length + 1) cap')) (M.set p (r ++ [⟨t, k1, k2, a1, a2, b1, b2⟩]))) := by
          refine ⟨BL.out.trans (keptB_below hkp2 BL.out.size (fun k hk => (tab_lt IV.out.ts (bad_ts k hk)).1)), blk_kept SG.out hkp2 (fun h2 => IV.out.n1 (bad_ts gs h2)), ht2, tab_kept HT4.out hkp2 (fun k h1 h2 => ?_), fun k h1 h2 => ?_, fun h1 => ?_, fun h1 => ?_, IV.out.gw, by simpa using IV.out.le, set_mem (r := r) IV.out.mx (by simp; omega)⟩
          · rcases bad_app HV.out HOB.out h1 with h3 | h3
            · exact IV.out.sp k (bad_ts k h2) h3
            · have := (tab_lt IV.out.ts (bad_ts k h2)).2
              omega
          · have k8 := (tab_lt HT4.out h2).2
            rcases bad_app HSV.out hob2 h1 with h3 | h3
            · rcases bad_app HV.out HOB.out h2 with h4 | h4
              · exact IV.out.sp k h3 h4
              · have := (tab_lt IV.out.ts h3).2
                omega
            · omega
          · rcases bad_app HSV.out hob2 h1 with h3 | h3
            · exact IV.out.n1 h3
            · have := SG.out.lt
              omega
          · rcases bad_app HV.out HOB.out h1 with h3 | h3
            · exact IV.out.n2 h3
            · have := IV.out.sg.lt
              omega
        clear ht2 hkp2 hob2 hN2 IV BL SG TS HT4 HOB PX bad_ts bad_tm hw78 hN1
        go_wp2_with fail
        refine (S0.out _).mono ?_
        rintro e w10 ⟨rfl, rfl⟩
        go_wp2_with fail
        go_roundw
        case rel => exact ⟨n + 1, _, _, _, by omega, by go_num, IVn⟩
        case measure => simp [intOf]; omega
end Go.Proofs.Ytepfpmagppckeab

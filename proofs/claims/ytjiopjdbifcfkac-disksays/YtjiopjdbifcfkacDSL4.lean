/- The law DiskSays's last loop and stretches, over this seat's translation. Conditions: as named. -/
import Derived.Test.YtjiopjdbifcfkacDSL3
namespace Go.Proofs.Ytjiopjdbifcfkac
open Go.ChangeShapes Go.WideShapes Go.ChangeAt Go.RowKit
set_option linter.unusedVariables false
set_option linter.unusedSimpArgs false

set_option maxRecDepth 100000 in
set_option maxHeartbeats 8000000 in
theorem loopD2 (Q : Exit → Act → World → Prop) (C32 : Code) (h32 : stm 32 (Try.f3.body.getD .skip) = some C32) (t : List Value) (n : Nat) (l : List Act1) (cap gd gs Br gr : Nat) (ao : Option Addr) (k : Nat) (G : Gh) (W w : World) (ht : t.length = 177) (k0 : t[0]? = some (.int .i64 (n : Int))) (k1 : t[1]? = some (.slice ao l.length cap)) (k6 : t[6]? = some (.pointer (some ⟨gd, 0, none⟩))) (k8 : t[8]? = some (.pointer (some ⟨gr, 0, none⟩))) (k17 : t[17]? = some (.int .i64 (-1)))
    (hn : n ≤ 160) (h : DD W w n gd gs Br gr k G)
    (hQ : ∀ (t' : List Value)  (w' : World), t'.length = 177 → Below W.heap.size W w' → Q .normal { tmps := t'.toArray, defers := [] } w') :
    Code.wp Try.prog C32 Q { tmps := t.toArray, defers := [] } w := by
  have HQ := hidE hQ
  have H0 := hidE h
  clear hQ h
  obtain ⟨f, hf, hi⟩ := listed t ht
  have e0 := some_at (hi 0 (by decide)) k0
  have e1 := some_at (hi 1 (by decide)) k1
  have e6 := some_at (hi 6 (by decide)) k6
  have e8 := some_at (hi 8 (by decide)) k8
  have e17 := some_at (hi 17 (by decide)) k17
  rw [e0, e1, e6, e8, e17] at hf
  clear hi ht k0 e0 k1 e1 k6 e6 k8 e8 k17 e17
  subst hf
  unfold Try.f3 at h32
  simp [stm, lead] at h32
  subst h32
  go_wp2_with fail
  go_loopw [17] (fun i wr => ∃ m : Nat, m ≤ n + 2 ∧ i = .int .i64 ((m : Int) - 1) ∧ Hid (DD W wr n gd gs Br gr k G)) (fun i _ => n + 2 - (intOf i + 1).toNat)
  case atStart => exact ⟨0, Nat.zero_le _, rfl, H0⟩
  case round =>
    obtain ⟨m, hm, rfl, HD⟩ := hrel
    obtain ⟨a, ha⟩ : ∃ a : Int, a = (m : Int) - 1 := ⟨_, rfl⟩
    rw [← ha]
    by_cases hlt : m < n + 2
    · have d1 : decide (a ≤ (n : Int)) = true := by simp; omega
      obtain ⟨y, v, f, hal, hR1, hR2⟩ := dd_read hn HD.out a
      have RA := hidE hR1
      have RB := hidE hR2
      have SA := fun w => same_alike hal w
      have HA : Hid (a = (m : Int) - 1) := ha
      have hab : -1 ≤ a ∧ a ≤ 160 := by omega
      clear hR1 hR2 hal ha
      go_wp2_with fail
      refine RA.out.mono ?_
      rintro e w1 ⟨rfl, hb1⟩
      have RB1 := hidE (RB.out w1 hb1)
      have H1 := hidE (dd_below HD.out hb1)
      clear RB RA hb1 HD
      go_wp2_with fail
      refine RB1.out.mono ?_
      rintro e w2 ⟨rfl, hb2⟩
      have H2 := hidE (dd_below H1.out hb2)
      clear RB1 hb2 H1
      go_wp2_with (go_at_call 9; refine (SA _).mono ?_; rintro e w' ⟨rfl, rfl⟩)
      go_roundw
      case rel => exact ⟨m + 1, by omega, by rw [HA.out]; congr 1; omega, H2⟩
      case measure =>
        have h9 : intOf (.int .i64 a) = a := rfl
        have h8 : ∀ z : Int, intOf (.int .i64 z) = z := fun z => rfl
        have h7 := HA.out
        simp only [h8]
        omega
    · have d1 : decide (a ≤ (n : Int)) = false := by simp; omega
      go_wp2_with fail
      exact HQ.out _  _ rfl HD.out.bl
set_option maxRecDepth 100000 in
set_option maxHeartbeats 8000000 in
theorem seg31 (Q : Exit → Act → World → Prop) (X : Code) (C31 : Code) (h31 : rgn 31 (Try.f3.body.getD .skip) = some C31) (t : List Value) (n : Nat) (l : List Act1) (cap gd gs Br gr : Nat) (ao : Option Addr) (ht : t.length = 177) (k0 : t[0]? = some (.int .i64 (n : Int))) (k1 : t[1]? = some (.slice ao l.length cap)) (k6 : t[6]? = some (.pointer (some ⟨gd, 0, none⟩))) (k8 : t[8]? = some (.pointer (some ⟨gr, 0, none⟩))) (w : World)
    (hQ : ∀ (t' : List Value), t'.length = 177 → t'[0]? = some (.int .i64 (n : Int)) → t'[1]? = some (.slice ao l.length cap) → t'[6]? = some (.pointer (some ⟨gd, 0, none⟩)) → t'[8]? = some (.pointer (some ⟨gr, 0, none⟩)) → t'[17]? = some (.int .i64 (-1)) → Code.wp Try.prog X Q { tmps := t'.toArray, defers := [] } w) :
    Code.wp Try.prog (.seq C31 X) Q { tmps := t.toArray, defers := [] } w := by
  have HQ := hidE hQ
  clear hQ
  obtain ⟨f, hf, hi⟩ := listed t ht
  have e0 := some_at (hi 0 (by decide)) k0
  have e1 := some_at (hi 1 (by decide)) k1
  have e6 := some_at (hi 6 (by decide)) k6
  have e8 := some_at (hi 8 (by decide)) k8
  rw [e0, e1, e6, e8] at hf
  clear hi ht k0 e0 k1 e1 k6 e6 k8 e8
  subst hf

  unfold Try.f3 at h31
  simp [rgn] at h31
  subst h31
  go_wp2_with fail
  exact HQ.out _ rfl rfl rfl rfl rfl rfl
set_option maxRecDepth 100000 in
set_option maxHeartbeats 8000000 in
theorem seg38 (Q : Exit → Act → World → Prop) (C38 : Code) (h38 : rgn 38 (Try.f3.body.getD .skip) = some C38) (t : List Value) (ht : t.length = 177) (w : World)
    (hR : ∀ t' : List Value, t'[4]? = some (.bool true) → Q .ret { tmps := t'.toArray, defers := [] } w) :
    Code.wp Try.prog (.seq C38 .ret) Q { tmps := t.toArray, defers := [] } w := by
  have HR := hidE hR
  clear hR
  obtain ⟨f, hf, hi⟩ := listed t ht
  clear hi ht 
  subst hf

  unfold Try.f3 at h38
  simp [rgn] at h38
  subst h38
  go_wp2_with fail
  exact HR.out _ rfl
set_option maxRecDepth 100000 in
set_option maxHeartbeats 8000000 in
theorem seg0 (Q : Exit → Act → World → Prop) (X R : Code) (C0 : Code) (h0 : rgn 0 (Try.f3.body.getD .skip) = some C0) (C1 : Code) (h1 : rgn 1 (Try.f3.body.getD .skip) = some C1) (C2 : Code) (h2 : rgn 2 (Try.f3.body.getD .skip) = some C2) (C3 : Code) (h3 : rgn 3 (Try.f3.body.getD .skip) = some C3) (C4 : Code) (h4 : rgn 4 (Try.f3.body.getD .skip) = some C4) (C5 : Code) (h5 : rgn 5 (Try.f3.body.getD .skip) = some C5) (C6 : Code) (h6 : rgn 6 (Try.f3.body.getD .skip) = some C6) (C7 : Code) (h7 : rgn 7 (Try.f3.body.getD .skip) = some C7) (C8 : Code) (h8 : rgn 8 (Try.f3.body.getD .skip) = some C8) (C9 : Code) (h9 : rgn 9 (Try.f3.body.getD .skip) = some C9) (C10 : Code) (h10 : rgn 10 (Try.f3.body.getD .skip) = some C10) (t : List Value) (z : Int) (l : List Act1) (cap : Nat) (ao : Option Addr) (W : World) (ht : t.length = 177) (k0 : t[0]? = some (.int .i64 z)) (k1 : t[1]? = some (.slice ao l.length cap))
    (hr : RowG W (.slice ao l.length cap) 4 l.length (rowOf cellsAct l)) (hl : l.length ≤ maxLen) (hs : ∀ x ∈ l, x.s.size ≤ maxLen)
    (hR : ∀ (t : List Value) w', t[4]? = some (.bool true) → Below W.heap.size W w' → Q .ret { tmps := t.toArray, defers := [] } w')
    (hQ : ∀ (t' : List Value) (n gd gs Br gr : Nat) (G : Gh) (w' : World), t'.length = 177 → t'[0]? = some (.int .i64 (n : Int)) → t'[1]? = some (.slice ao l.length cap) → t'[6]? = some (.pointer (some ⟨gd, 0, none⟩)) → t'[8]? = some (.pointer (some ⟨gr, 0, none⟩)) → t'[10]? = some (.int .i64 0) → z = (n : Int) ∧ 1 ≤ n ∧ n ≤ 160 ∧ l.length ≤ 80 ∧ (∀ x ∈ l, x.s.size ≤ 3000) ∧ DD W w' n gd gs Br gr 0 G → Code.wp Try.prog X (Exit.then (Code.wp Try.prog R Q) Q) { tmps := t'.toArray, defers := [] } w') :
    Code.wp Try.prog (.seq C0 (.seq C1 (.seq (.seq C2 (.cond (.tmp 29) (.seq C3 .ret) .skip)) (.seq C4 (.seq C5 (.seq (.seq C6 (.cond (.tmp 42) (.seq C7 .ret) .skip)) (.seq (.seq C8 (.cond (.tmp 61) (.seq C9 .ret) .skip)) (.seq (.seq C10 X) R)))))))) Q { tmps := t.toArray, defers := [] } W := by
  have HR := hidE hR
  have HQ := hidE hQ
  have lR := hidE hr
  have lS := hidE hs
  have lL := hidE hl
  have SP := hidE (spins_any W)
  clear hR hQ hr hs hl
  obtain ⟨f, hf, hi⟩ := listed t ht
  have e0 := some_at (hi 0 (by decide)) k0
  have e1 := some_at (hi 1 (by decide)) k1
  rw [e0, e1] at hf
  clear hi ht k0 e0 k1 e1
  subst hf
  unfold Try.f3 at h0
  simp [rgn] at h0
  subst h0
  unfold Try.f3 at h1
  simp [rgn] at h1
  subst h1
  unfold Try.f3 at h2
  simp [rgn] at h2
  subst h2
  unfold Try.f3 at h3
  simp [rgn] at h3
  subst h3
  unfold Try.f3 at h4
  simp [rgn] at h4
  subst h4
  unfold Try.f3 at h5
  simp [rgn] at h5
  subst h5
  unfold Try.f3 at h6
  simp [rgn] at h6
  subst h6
  unfold Try.f3 at h7
  simp [rgn] at h7
  subst h7
  unfold Try.f3 at h8
  simp [rgn] at h8
  subst h8
  unfold Try.f3 at h9
  simp [rgn] at h9
  subst h9
  unfold Try.f3 at h10
  simp [rgn] at h10
  subst h10
  go_wp2_with fail
  refine SP.out.mono ?_
  rintro e w1 ⟨rfl, hb⟩
  have B1 := hidE hb
  have LA := hidE (light_any l 80 (.slice ao l.length cap) w1 (rowG_below lR.out hb) lL.out lS.out)
  clear hb SP
  go_wp2_with fail
  refine LA.out.mono ?_
  rintro e w2 ⟨⟨b, rfl, hb1⟩, hb⟩
  have B2 : Hid (Below W.heap.size W w2) := B1.out.trans (hb.mono B1.out.size)
  clear hb LA B1
  cases b with
  | false =>
    go_wp2_with fail
    exact HR.out _ _ rfl B2.out
  | true =>
  have HL1 := hidE (hb1 rfl)
  clear hb1
  by_cases hz : z < 1 ∨ 160 < z
  · have N1 := hidE (new_out z w2 hz)
    have HZ := hidE hz
    clear hz
    go_wp2_with fail
    refine N1.out.mono ?_
    rintro e w3 ⟨rfl, hb⟩
    have B3 : Hid (Below W.heap.size W w3) := B2.out.trans (hb.mono B2.out.size)
    have N2 := hidE (rnew_out z w3 HZ.out)
    clear hb B2 N1
    go_wp2_with fail
    refine N2.out.mono ?_
    rintro e w4 ⟨rfl, hb⟩
    have B4 : Hid (Below W.heap.size W w4) := B3.out.trans (hb.mono B3.out.size)
    have SA := hidE (same_err 1 1 w4 (by decide))
    clear hb B3 N2
    go_wp2_with fail
    refine SA.out.mono ?_
    rintro e w5 ⟨rfl, rfl⟩
    go_wp2_with fail
    exact HR.out _ _ rfl B4.out
  · obtain ⟨n, hn⟩ : ∃ n : Nat, z = (n : Int) := ⟨z.toNat, by omega⟩
    subst hn
    have N1 := hidE (new_in n W.heap.size w2 B2.out.size (by omega) (by omega))
    have HZ : Hid (1 ≤ n ∧ n ≤ 160) := by show _ ∧ _; omega
    clear hz
    go_wp2_with fail
    refine N1.out.mono ?_
    rintro e w3 ⟨gd, gs, rfl, hb, hd⟩
    have HB := hidE hb
    have HD := hidE hd
    have N2 := hidE (rnew_in n w3 HZ.out.1 HZ.out.2)
    clear hb hd N1
    go_wp2_with fail
    refine N2.out.mono ?_
    rintro e w4 ⟨gr, kv, nv, rfl, hb2, hgr, hrd⟩
    obtain ⟨G, hdn, hdd⟩ := dd_new B2.out HB.out HD.out hb2 hrd
    have SE := sectors_g W.heap.size gd gs G.bit G.left G.down G.ss w4 hdd.dk
    rw [hdd.rel.ls] at SE
    have SE := hidE SE
    have HDD := hidE hdd
    clear hb2 hgr hrd hdn hdd N2 HD HB
    have hne : ((n : Int) == (n : Int)) = true := by simp
    go_wp2_with fail
    refine SE.out.mono ?_
    rintro e w5 ⟨rfl, hb⟩
    have HD5 := hidE (dd_below HDD.out hb)
    clear hb SE HDD
    go_wp2_with fail
    rename_i K9 hK9
    exact wp_then (HQ.out _ n gd gs _ gr G w5 rfl rfl rfl rfl rfl rfl ⟨rfl, HZ.out.1, HZ.out.2, by have := HL1.out.1; omega, HL1.out.2, HD5.out⟩) hK9
end Go.Proofs.Ytjiopjdbifcfkac

/- The law DiskSays's loop over acts, over this seat's translation. Conditions: as named. -/
import Derived.Test.YtjiopjdbifcfkacDSL2
namespace Go.Proofs.Ytjiopjdbifcfkac
open Go.ChangeShapes Go.WideShapes Go.ChangeAt Go.RowKit
set_option linter.unusedVariables false
set_option linter.unusedSimpArgs false

theorem rel_len {W wr : World} {n gd gs Br gr m k : Nat} {G : Gh} (h : DD W wr n gd gs Br gr m G) (hm : m ≤ k) : DD W wr n gd gs Br gr k G := dd_mono h hm
set_option maxRecDepth 100000 in
set_option maxHeartbeats 8000000 in
theorem dEnd (Q : Exit → Act → World → Prop) (C29 : Code) (h29 : rgn 29 (Try.f3.body.getD .skip) = some C29) (C30 : Code) (h30 : rgn 30 (Try.f3.body.getD .skip) = some C30) (t : List Value) (n : Nat) (l : List Act1) (cap gd gs Br gr : Nat) (ao : Option Addr) (i10 : Value) (m : Nat) (G : Gh) (W w : World) (ht : t.length = 177) (k0 : t[0]? = some (.int .i64 (n : Int))) (k1 : t[1]? = some (.slice ao l.length cap)) (k6 : t[6]? = some (.pointer (some ⟨gd, 0, none⟩))) (k8 : t[8]? = some (.pointer (some ⟨gr, 0, none⟩))) (k10 : t[10]? = some (i10)) (k12 : t[12]? = some (.bool true))
    (h : DD W w n gd gs Br gr m G)
    (hpan : ∀ c a a' w, Q (.panic c) a w → Q (.panic c) a' w)
    (hQ : ∀ (t' : List Value)  (w' : World), t'.length = 177 → t'[0]? = some (.int .i64 (n : Int)) → t'[1]? = some (.slice ao l.length cap) → t'[6]? = some (.pointer (some ⟨gd, 0, none⟩)) → t'[8]? = some (.pointer (some ⟨gr, 0, none⟩)) → t'[10]? = some (i10) → DD W w' n gd gs Br gr m G → Q .normal { tmps := t'.toArray, defers := [] } w') :
    Code.wp Try.prog (.seq C29 (.cond (.tmp 150) (.seq C30 .ret) .skip)) Q { tmps := t.toArray, defers := [] } w := by
  have HQ := hidE hQ
  have HPN := hidE hpan
  have H := hidE h
  have lgr := h.rd.bd.lt
  have c4 : w.cell? ⟨gr, 4, none⟩ = some (.bool G.down) := h.rd.bd.c 4 (by simp)
  have dd : Below w.heap.size w ({ w with drawn := w.drawn + 1 } : World) := (Below.refl _ _).drew
  have DN := hidE (down_g W.heap.size gd gs G.bit G.left G.down G.ss ({ w with drawn := w.drawn + 1 } : World) (dskG_below h.dk dd))
  have hS := dd
  clear hQ hpan h dd
  obtain ⟨f, hf, hi⟩ := listed t ht
  have e0 := some_at (hi 0 (by decide)) k0
  have e1 := some_at (hi 1 (by decide)) k1
  have e6 := some_at (hi 6 (by decide)) k6
  have e8 := some_at (hi 8 (by decide)) k8
  have e10 := some_at (hi 10 (by decide)) k10
  have e12 := some_at (hi 12 (by decide)) k12
  rw [e0, e1, e6, e8, e10, e12] at hf
  clear hi ht k0 e0 k1 e1 k6 e6 k8 e8 k10 e10 k12 e12
  subst hf
  unfold Try.f3 at h29
  simp [rgn] at h29
  subst h29
  unfold Try.f3 at h30
  simp [rgn] at h30
  subst h30
  go_wp2_with fail
  refine wp_region_held (S := fun w' => Below w.heap.size w w') (by kernel_rfl) ?_
  generalize ({ w with drawn := w.drawn + 1 } : World) = wd at *
  refine held_take (i := 0) (v := .bool true) (L := #[true, false, false, false, false, false, false, false, false, false, false]) rfl (by kernel_rfl) (by kernel_rfl) (by kernel_rfl) (fun c a w h => HPN.out c _ _ _ h) (Or.inl ⟨by kernel_rfl, fun wq hq => by go_simp⟩) hS (by kernel_rfl) ?_
  refine held_take (i := 1) (v := .bool false) (L := #[true, true, false, false, false, false, false, false, false, false, false]) rfl (by kernel_rfl) (by kernel_rfl) (by kernel_rfl) (fun c a w h => HPN.out c _ _ _ h) (Or.inl ⟨by kernel_rfl, fun wq hq => by go_simp⟩) hS (by kernel_rfl) ?_
  refine held_take (i := 2) (v := .bool false) (L := #[true, true, true, false, false, false, false, false, false, false, false]) rfl (by kernel_rfl) (by kernel_rfl) (by kernel_rfl) (fun c a w h => HPN.out c _ _ _ h) (Or.inl ⟨by kernel_rfl, fun wq hq => by go_simp⟩) hS (by kernel_rfl) ?_
  refine held_take (i := 3) (v := .pointer (some ⟨gd, 0, none⟩)) (L := #[true, true, true, true, false, false, false, false, false, false, false]) rfl (by kernel_rfl) (by kernel_rfl) (by kernel_rfl) (fun c a w h => HPN.out c _ _ _ h) (Or.inl ⟨by kernel_rfl, fun wq hq => by go_simp⟩) hS (by kernel_rfl) ?_
  refine held_take (i := 5) (v := .pointer (some ⟨gr, 0, none⟩)) (L := #[true, true, true, true, false, true, false, false, false, false, false]) rfl (by kernel_rfl) (by kernel_rfl) (by kernel_rfl) (fun c a w h => HPN.out c _ _ _ h) (Or.inl ⟨by kernel_rfl, fun wq hq => by go_simp⟩) hS (by kernel_rfl) ?_
  refine held_take (i := 6) (v := .pointer (some ⟨gr, 0, none⟩)) (L := #[true, true, true, true, false, true, true, false, false, false, false]) rfl (by kernel_rfl) (by kernel_rfl) (by kernel_rfl) (fun c a w h => HPN.out c _ _ _ h) (Or.inl ⟨by kernel_rfl, fun wq hq => by go_simp⟩) hS (by kernel_rfl) ?_
  refine held_take (i := 7) (v := .pointer (some ⟨gr, 4, none⟩)) (L := #[true, true, true, true, false, true, true, true, false, false, false]) rfl (by kernel_rfl) (by kernel_rfl) (by kernel_rfl) (fun c a w h => HPN.out c _ _ _ h) (Or.inl ⟨by kernel_rfl, fun wq hq => by go_simp⟩) hS (by kernel_rfl) ?_
  refine held_take (i := 8) (v := .bool G.down) (L := #[true, true, true, true, false, true, true, true, true, false, false]) rfl (by kernel_rfl) (by kernel_rfl) (by kernel_rfl) (fun c a w h => HPN.out c _ _ _ h) (Or.inl ⟨by kernel_rfl, fun wq hq => by have q := hq.cell (p := ⟨gr, 4, none⟩) lgr; rw [c4] at q; go_simp⟩) hS (by kernel_rfl) ?_
  refine held_go (i := 4) (L := #[true, true, true, true, true, true, true, true, true, false, false]) (by kernel_rfl) rfl (by kernel_rfl) (by kernel_rfl) ?_
  intro K' hK
  go_simp
  refine DN.out.mono ?_
  rintro e w1 ⟨rfl, hb1⟩
  have hS1 := hS.trans (hb1.mono (by have := hS.size; first | exact this | exact Nat.le_refl _))
  refine hK _ _ ⟨hS1, ?_⟩
  clear hK DN
  refine held_go (i := 9) (L := #[true, true, true, true, true, true, true, true, true, true, false]) (by kernel_rfl) rfl (by kernel_rfl) (by kernel_rfl) ?_
  intro K' hK
  go_simp
  refine hK _ _ ⟨hS1, ?_⟩
  clear hK
  refine held_go (i := 10) (L := #[true, true, true, true, true, true, true, true, true, true, true]) (by kernel_rfl) rfl (by kernel_rfl) (by kernel_rfl) ?_
  intro K' hK
  go_simp
  refine hK _ _ ⟨hS1, ?_⟩
  clear hK
  refine wpAnyH_done (by kernel_rfl) ?_ _
  have H1 := hidE (dd_below H.out hS1)
  have ne : (!(G.down == G.down)) = false := by simp
  clear hS hS1 H c4
  go_wp2_with fail
  exact HQ.out _  _ rfl rfl rfl rfl rfl rfl H1.out
set_option maxRecDepth 100000 in
set_option maxHeartbeats 8000000 in
theorem dStep (Q : Exit → Act → World → Prop) (C12 : Code) (h12 : rgn 12 (Try.f3.body.getD .skip) = some C12) (t : List Value) (n : Nat) (l : List Act1) (cap gd gs Br gr : Nat) (ao : Option Addr) (m : Nat) (w : World) (ht : t.length = 177) (k0 : t[0]? = some (.int .i64 (n : Int))) (k1 : t[1]? = some (.slice ao l.length cap)) (k6 : t[6]? = some (.pointer (some ⟨gd, 0, none⟩))) (k8 : t[8]? = some (.pointer (some ⟨gr, 0, none⟩))) (k10 : t[10]? = some (.int .i64 (m : Int)))
    (hm : m ≤ 100)
    (hQ : ∀ (t' : List Value)  (w' : World), t'.length = 177 → t'[0]? = some (.int .i64 (n : Int)) → t'[1]? = some (.slice ao l.length cap) → t'[6]? = some (.pointer (some ⟨gd, 0, none⟩)) → t'[8]? = some (.pointer (some ⟨gr, 0, none⟩)) → t'[10]? = some (.int .i64 ((m + 1 : Nat) : Int)) → w' = w → Q .normal { tmps := t'.toArray, defers := [] } w') :
    Code.wp Try.prog C12 Q { tmps := t.toArray, defers := [] } w := by
  have HQ := hidE hQ
  clear hQ
  obtain ⟨f, hf, hi⟩ := listed t ht
  have e0 := some_at (hi 0 (by decide)) k0
  have e1 := some_at (hi 1 (by decide)) k1
  have e6 := some_at (hi 6 (by decide)) k6
  have e8 := some_at (hi 8 (by decide)) k8
  have e10 := some_at (hi 10 (by decide)) k10
  rw [e0, e1, e6, e8, e10] at hf
  clear hi ht k0 e0 k1 e1 k6 e6 k8 e8 k10 e10
  subst hf
  unfold Try.f3 at h12
  simp [rgn] at h12
  subst h12
  go_wp2_with fail
  have e9 : Value.int IntKind.i64 ((m : Int) + 1) = .int .i64 ((m + 1 : Nat) : Int) := by congr 1
  rw [e9]
  exact HQ.out _  _ rfl rfl rfl rfl rfl rfl rfl
set_option maxRecDepth 100000 in
set_option maxHeartbeats 8000000 in
theorem loopD1 (Q : Exit → Act → World → Prop) (C11 : Code) (h11 : stm 11 (Try.f3.body.getD .skip) = some C11) (t : List Value) (n : Nat) (l : List Act1) (cap gd gs Br gr : Nat) (ao : Option Addr) (G0 : Gh) (W w : World) (ht : t.length = 177) (k0 : t[0]? = some (.int .i64 (n : Int))) (k1 : t[1]? = some (.slice ao l.length cap)) (k6 : t[6]? = some (.pointer (some ⟨gd, 0, none⟩))) (k8 : t[8]? = some (.pointer (some ⟨gr, 0, none⟩))) (k10 : t[10]? = some (.int .i64 0))
    (hn : n ≤ 160) (hn0 : 1 ≤ n) (hl : l.length ≤ 80) (hs : ∀ x ∈ l, x.s.size ≤ 3000) (hz : ∀ x ∈ l, (0 ≤ x.k ∧ x.k ≤ 18446744073709551615) ∧ x.a ≤ 9223372036854775807) (hr : RowG W (.slice ao l.length cap) 4 l.length (rowOf cellsAct l)) (h : DD W w n gd gs Br gr 0 G0)
    (hpan : ∀ c a a' w, Q (.panic c) a w → Q (.panic c) a' w)
    (hQ : ∀ (t' : List Value)  (w' : World), t'.length = 177 → t'[0]? = some (.int .i64 (n : Int)) → t'[1]? = some (.slice ao l.length cap) → t'[6]? = some (.pointer (some ⟨gd, 0, none⟩)) → t'[8]? = some (.pointer (some ⟨gr, 0, none⟩)) → (∃ G, DD W w' n gd gs Br gr l.length G) → Q .normal { tmps := t'.toArray, defers := [] } w') :
    Code.wp Try.prog C11 Q { tmps := t.toArray, defers := [] } w := by
  have HQ := hidE hQ
  have HPN := hidE hpan
  clear hQ hpan
  unfold Try.f3 at h11
  simp [stm, lead] at h11
  subst h11
  refine wp_block (wp_loop (fun a wr => ∃ (t : List Value) (m : Nat) (G : Gh), a = { tmps := t.toArray, defers := [] } ∧ t.length = 177 ∧ (t[0]? = some (.int .i64 (n : Int)) ∧ t[1]? = some (.slice ao l.length cap) ∧ t[6]? = some (.pointer (some ⟨gd, 0, none⟩)) ∧ t[8]? = some (.pointer (some ⟨gr, 0, none⟩)) ∧ t[10]? = some (.int .i64 (m : Int))) ∧ m ≤ l.length ∧ DD W wr n gd gs Br gr m G) (fun a _ => l.length - (intOf (a.tmps.getD 10 undef)).toNat) ?_ ?_)
  · exact ⟨t, 0, G0, rfl, ht, ⟨k0, k1, k6, k8, k10⟩, Nat.zero_le _, h⟩
  · rintro a wr ⟨t, m, G, rfl, ht, ⟨k0, k1, k6, k8, k10⟩, hm, hd⟩
    have hmu : (intOf (t.toArray.getD 10 undef)).toNat = m := by
      have h9 : t.toArray.getD 10 undef = .int .i64 (m : Int) := by simp [k10]
      rw [h9]
      simp [intOf]
    simp only [hmu]
    clear hmu
    refine wp_seq (dHead _ _ (by kernel_rfl) t n l cap gd gs Br gr ao m wr ht k0 k1 k6 k8 k10 (by unfold maxLen; omega) hm (fun t' ht' _ _ _ _ => ?_) ?_)
    · exact then_exit (then_exit (in_exit (HQ.out t' wr ht' (by assumption) (by assumption) (by assumption) (by assumption) ⟨G, rel_len hd hm⟩)))
    · rintro t1 wA ht1 a0 a1 a6 a8 a10 ⟨hlt, hwA⟩
      subst hwA
      refine then_normal (wp_seq (wp_block (dLoad _ _ _ _ (by kernel_rfl) _ (by kernel_rfl) _ (by kernel_rfl) t1 n l cap gd gs Br gr ao m W _ G ht1 a0 a1 a6 a8 a10 hlt (rowG_below hr hd.bl) hd ?_)))
      intro t2 ga x w2 ht2 b0 b1 b6 b8 b10 b11 b12 b73 ⟨hx, hd2, hba, hn1, hn2⟩
      refine (sw_any _ _ (by kernel_rfl) t2 n l cap gd gs Br gr ao _ x ga m G W w2 ht2 b0 b1 b6 b8 b10 b11 b12 b73 hn hn0 (by omega) (hs x hx) (hz x hx).1 (hz x hx).2 hd2 hba ⟨hn1, hn2⟩ ?_ ?_)
      · exact fun c a a' w h => HPN.out c a a' w h
      · intro t3 G3 w3 ht3 c0 c1 c6 c8 c10 c12 hd3
        refine (then_normal (dEnd _ _ (by kernel_rfl) _ (by kernel_rfl) t3 n l cap gd gs Br gr ao _ (m + 1) G3 W w3 ht3 c0 c1 c6 c8 c10 c12 hd3 ?_ ?_))
        · exact fun c a a' w h => HPN.out c a a' w h
        · intro t4 w4 ht4 d0 d1 d6 d8 d10 hd4
          refine in_normal (then_normal (dStep _ _ (by kernel_rfl) t4 n l cap gd gs Br gr ao m w4 ht4 d0 d1 d6 d8 d10 (by omega) ?_))
          intro t5 w5 ht5 e0 e1 e6 e8 e10 hw5
          subst hw5
          refine then_normal ⟨⟨t5, m + 1, G3, rfl, ht5, ⟨e0, e1, e6, e8, e10⟩, hlt, hd4⟩, ?_⟩
          have h9 : t5.toArray.getD 10 undef = .int .i64 ((m + 1 : Nat) : Int) := by simp [e10]
          show l.length - (intOf (t5.toArray.getD 10 undef)).toNat < l.length - m
          rw [h9]
          have h8 : (intOf (.int .i64 ((m + 1 : Nat) : Int))) = ((m + 1 : Nat) : Int) := rfl
          rw [h8]
          omega
end Go.Proofs.Ytjiopjdbifcfkac

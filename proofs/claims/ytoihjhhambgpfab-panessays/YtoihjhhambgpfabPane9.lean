/- The contracts of the closure that a table's Drop hands on, and of slices.IndexFunc at it, over this seat's translation. Conditions: as named. -/
import Derived.Test.YtoihjhhambgpfabPane8
namespace Go.Proofs.Ytoihjhhambgpfab
open Go.ChangeShapes Go.WideShapes Go.ChangeAt Go.RowKit
set_option linter.unusedVariables false
set_option linter.unusedSimpArgs false

theorem drop1_any (p : Pn) (b1 b2 : Nat) (size upto : Int) (w : World) (h1 : -100000 ≤ p.st) (h2 : p.st ≤ 100000) (h3 : 1 ≤ size) (h4 : size ≤ 100000) (hs : ∃ ao n cap, p.av = .slice ao n cap)
    (c1 : w.cell? ⟨b1, 0, none⟩ = some (.int .i64 size)) (c2 : w.cell? ⟨b2, 0, none⟩ = some (.int .i64 upto)) (l1 : b1 < w.heap.size) (l2 : b2 < w.heap.size) :
    Calls Try.prog 67 #[aggP p, .pointer (some ⟨b1, 0, none⟩), .pointer (some ⟨b2, 0, none⟩)] w fun e w' => e = .returned (.bool (decide (p.st + size ≤ upto))) ∧ Below w.heap.size w w' := by
  have hA := (Below.refl w.heap.size w).alloc (Nat.le_refl _) (.cells #[.int .i64 p.st, .int .i64 p.k, .int .i64 p.n, p.av, .bool p.told] 94)
  have EN := hidE (ends_any p size upto (w.alloc (.cells #[.int .i64 p.st, .int .i64 p.k, .int .i64 p.n, p.av, .bool p.told] 94)) h1 h2 h3 h4 hs)
  obtain ⟨st, k, n, told, ac, av⟩ := p
  obtain ⟨ao, m, cap, hav⟩ := hs
  simp only at hav
  subst hav
  unfold aggP at EN ⊢
  simp only at EN hA ⊢
  have d1 := hA.cell (p := ⟨b1, 0, none⟩) l1
  have d2 := hA.cell (p := ⟨b2, 0, none⟩) l2
  rw [c1] at d1
  rw [c2] at d2
  have HA := hidE hA
  clear hA h1 h2 h3 h4
  go_enter Try.func67, Try.ntmps67
  go_wp2_with fail
  refine EN.out.mono ?_
  rintro e w1 ⟨rfl, hb⟩
  have HB := nxt HA hb
  clear hb HA EN d1 d2
  go_wp2_with fail
  go_ret
  exact ⟨rfl, HB.out⟩

set_option maxRecDepth 100000 in
set_option maxHeartbeats 2000000 in
theorem index_any (ps : List Pn) (c : Pn → Bool) (p1 p2 : Value) (ao : Option Addr) (cap : Nat) (w : World) (hl : ps.length ≤ 1000) (hr : RowG w (.slice ao ps.length cap) 5 ps.length (rowOf cellsPn ps)) (hs : ∀ p ∈ ps, ∃ ao n cap, p.av = .slice ao n cap)
    (hc : ∀ p ∈ ps, ∀ w', Below w.heap.size w w' → Calls Try.prog 67 #[aggP p, p1, p2] w' fun e w'' => e = .returned (.bool (c p)) ∧ Below w'.heap.size w' w'') :
    Calls Try.prog 74 #[.slice ao ps.length cap, .func (.func 67) #[] #[p1, p2]] w fun e w' => (∃ i, i < ps.length ∧ (∀ q p, q < i → ps[q]? = some p → c p = false) ∧ (∀ p, ps[i]? = some p → c p = true) ∧ e = .returned (.int .i64 (i : Nat)) ∧ Below w.heap.size w w') ∨ ((∀ p ∈ ps, c p = false) ∧ e = .returned (.int .i64 (-1)) ∧ Below w.heap.size w w') := by
  have HR := hidE hr
  have HS := hidE hs
  have HC := hidE hc
  clear hr hs hc
  go_enter Try.func74, Try.ntmps74
  go_wp2_with fail
  go_loopw [8] (fun i wr => ∃ m : Nat, m ≤ ps.length ∧ i = .int .i64 m ∧ Hid (∀ q p, q < m → ps[q]? = some p → c p = false) ∧ Hid (Below w.heap.size w wr)) (fun i _ => ps.length - (intOf i).toNat)
  case atStart => exact ⟨0, Nat.zero_le _, rfl, fun q p hq => absurd hq (by omega), Below.refl _ _⟩
  case round =>
    obtain ⟨m, hm, rfl, HM, HB⟩ := hrel
    by_cases hlt : m < ps.length
    · obtain ⟨g, off, rfl, hcell, q1, q2, lg⟩ := rowOf_val cellsPn_len (rowG_below HR.out HB.out) m hlt
      have CP := hidE (HC.out ps[m] (List.getElem_mem hlt))
      obtain ⟨ap, np, cp, hav⟩ := HS.out ps[m] (List.getElem_mem hlt)
      have HP : Hid (ps[m]? = some ps[m]) := List.getElem?_eq_getElem hlt
      generalize ps[m] = p at *
      obtain ⟨x1, x2, x3, x4, x5, x6⟩ := p
      simp only at hav
      subst hav
      have y0 : wr.cell? ⟨g, off + m * 5, none⟩ = some (.int .i64 x1) := hcell 0 (by omega)
      have y1 : wr.cell? ⟨g, off + m * 5 + 1, none⟩ = some (.int .i64 x2) := hcell 1 (by omega)
      have y2 : wr.cell? ⟨g, off + m * 5 + 2, none⟩ = some (.int .i64 x3) := hcell 2 (by omega)
      have y3 : wr.cell? ⟨g, off + m * 5 + 3, none⟩ = some (.slice ap np cp) := hcell 3 (by omega)
      have y4 : wr.cell? ⟨g, off + m * 5 + 4, none⟩ = some (.bool x4) := hcell 4 (by omega)
      unfold aggP at CP
      simp only at CP
      unfold maxLen at q2
      generalize hcx : c ⟨x1, x2, x3, x4, x5, .slice ap np cp⟩ = r at *
      have HCX := hidE hcx
      clear hcell hcx
      go_wp2_with fail
      refine (CP.out _ HB.out).mono ?_
      rintro e w2 ⟨rfl, hb⟩
      have HB2 := nxt HB hb
      clear hb HB y0 y1 y2 y3 y4
      cases r with
      | true =>
        go_wp2_with fail
        go_ret
        refine .inl ⟨m, hlt, HM.out, fun p hp => ?_, rfl, HB2.out⟩
        rw [HP.out] at hp
        cases hp
        exact HCX.out
      | false =>
        go_wp2_with fail
        go_roundw
        case rel => exact ⟨m + 1, by omega, by go_num, fun q p hq hp => by
            by_cases h9 : q = m
            · subst h9
              rw [HP.out] at hp
              cases hp
              exact HCX.out
            · exact HM.out q p (by omega) hp, HB2⟩
        case measure => simp [intOf]; omega
    · have hme : m = ps.length := by omega
      subst hme
      go_wp2_with fail
      go_ret
      refine .inr ⟨fun p hp => ?_, rfl, HB.out⟩
      obtain ⟨q, hq, rfl⟩ := List.mem_iff_getElem.1 hp
      exact HM.out q _ hq (List.getElem?_eq_getElem hq)
end Go.Proofs.Ytoihjhhambgpfab

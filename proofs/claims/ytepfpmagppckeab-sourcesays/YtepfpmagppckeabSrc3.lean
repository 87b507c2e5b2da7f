/- The contract of source.Put, over this seat's translation: an event behind the others of a part, or what is wrong. Conditions: as named. -/
import Derived.Test.YtepfpmagppckeabSrc2
namespace Go.Proofs.Ytepfpmagppckeab
open Go.ChangeShapes Go.WideShapes Go.ChangeAt Go.RowKit
set_option linter.unusedVariables false
set_option linter.unusedSimpArgs false

theorem cells7 (w : World) (x : Ev) (g : Nat) (e : TypeId) (hg : g = w.heap.size) : ∀ j u, (cellsE x)[j]? = some u → (w.alloc (.cells #[.int .i64 x.t, .int .i64 x.k1, .int .i64 x.k2, .int .i64 x.a1, .int .i64 x.a2, .int .i64 x.b1, .int .i64 x.b2] e)).cell? ((⟨g, 0, none⟩ : Addr).add j) = some u := by
  intro j u h
  subst hg
  have hj : j < 7 := by simpa [cellsE] using (List.getElem?_eq_some_iff.1 h).1
  have := World.ownsRow_lit (base := 0) (size := 7) (e := e) w #[.int .i64 x.t, .int .i64 x.k1, .int .i64 x.k2, .int .i64 x.a1, .int .i64 x.a2, .int .i64 x.b1, .int .i64 x.b2] 1 (Nat.zero_le _) (by decide) rfl
  have := this.cellAt j (by omega)
  rw [show (⟨w.heap.size, 0, none⟩ : Addr).add j = ⟨w.heap.size, j, none⟩ from by simp [Addr.add]; intro h; exact h.symm, this]
  exact h

set_option maxRecDepth 100000 in
theorem put_none (gs go P : Nat) (p : Int) (x : Ev) (w : World) (h : BlkAt w gs [.slice (some ⟨go, 0, none⟩) P P]) (hp : p < 0 ∨ (P : Int) ≤ p) :
    Calls Try.prog 33 #[.pointer (some ⟨gs, 0, none⟩), .int .i64 p, aggV x] w fun e w' => e = .returned (errV 5) ∧ Below w.heap.size w w' := by
  obtain ⟨t, k1, k2, a1, a2, b1, b2⟩ := x
  have hA := (Below.refl w.heap.size w).alloc (Nat.le_refl _) (.cells #[.int .i64 t, .int .i64 k1, .int .i64 k2, .int .i64 a1, .int .i64 a2, .int .i64 b1, .int .i64 b2] 71)
  have HH := hidE (shas_any gs go P p _ (blk_below h hA h.lt))
  rw [show (decide (0 ≤ p) && decide (p < (P : Int))) = false from by simp; omega] at HH
  have HA := hidE hA
  clear hA
  unfold aggV
  go_enter Try.func33, Try.ntmps33
  go_wp2_with fail
  refine HH.out.mono ?_
  rintro e w1 ⟨rfl, rfl⟩
  go_wp2_with fail
  go_ret
  exact ⟨rfl, HA.out⟩

set_option maxRecDepth 100000 in
theorem put_bad (gs go P p : Nat) (x : Ev) (w : World) (h : BlkAt w gs [.slice (some ⟨go, 0, none⟩) P P]) (hp : p < P) (hx : evC x ≠ 0) :
    Calls Try.prog 33 #[.pointer (some ⟨gs, 0, none⟩), .int .i64 p, aggV x] w fun e w' => e = .returned (errV (evC x)) ∧ Below w.heap.size w w' := by
  have CK := hidE (fun w => srcCheck_any x w)
  have EX : Hid (errV (evC x) = .iface 109 (.int .i64 (evC x))) := by
    show _ = _
    simp [errV, hx]
  rw [EX.out] at CK ⊢
  generalize evC x = c at *
  obtain ⟨t, k1, k2, a1, a2, b1, b2⟩ := x
  have hA := (Below.refl w.heap.size w).alloc (Nat.le_refl _) (.cells #[.int .i64 t, .int .i64 k1, .int .i64 k2, .int .i64 a1, .int .i64 a2, .int .i64 b1, .int .i64 b2] 71)
  have HH := hidE (shas_any gs go P p _ (blk_below h hA h.lt))
  rw [show (decide (0 ≤ (p : Int)) && decide ((p : Int) < (P : Int))) = true from by simp; omega] at HH
  have HA := hidE hA
  clear hA
  unfold aggV at *
  go_enter Try.func33, Try.ntmps33
  go_wp2_with fail
  refine HH.out.mono ?_
  rintro e w1 ⟨rfl, rfl⟩
  go_wp2_with fail
  refine (CK.out _).mono ?_
  rintro e w2 ⟨rfl, hb⟩
  have HB := nxt HA hb
  clear hb
  go_wp2_with fail
  go_ret
  exact ⟨rfl, HB.out⟩

set_option maxRecDepth 100000 in
theorem put_full (gs go P p : Nat) (vs : List Value) (M : List (List Ev)) (r : List Ev) (x : Ev) (w : World) (h : BlkAt w gs [.slice (some ⟨go, 0, none⟩) P P]) (ht : TabR w go vs M) (hP : P ≤ 1000) (hM : M.length = P) (hp : p < P) (hr : M[p]? = some r) (hl : r.length = 40) (hx : evC x = 0) :
    Calls Try.prog 33 #[.pointer (some ⟨gs, 0, none⟩), .int .i64 p, aggV x] w fun e w' => e = .returned (errV 6) ∧ Below w.heap.size w w' := by
  have CK := hidE (fun w => srcCheck_any x w)
  rw [hx] at CK
  obtain ⟨t, k1, k2, a1, a2, b1, b2⟩ := x
  have hA := (Below.refl w.heap.size w).alloc (Nat.le_refl _) (.cells #[.int .i64 t, .int .i64 k1, .int .i64 k2, .int .i64 a1, .int .i64 a2, .int .i64 b1, .int .i64 b2] 71)
  have HH := hidE (shas_any gs go P p _ (blk_below h hA h.lt))
  rw [show (decide (0 ≤ (p : Int)) && decide ((p : Int) < (P : Int))) = true from by simp; omega] at HH
  have hpv : p < vs.length := by rw [ht.n1]; omega
  have RW := ht.rows p vs[p] r (List.getElem?_eq_getElem hpv) hr
  obtain ⟨ao, cap, hv⟩ := rowG_shape RW
  have HC := hidE (fun (w' : World) (hb : Below w.heap.size w w') => (hb.cell (p := ⟨gs, 0, none⟩) h.lt).trans (h.c 0 (by simp)))
  have HD := hidE (fun (w' : World) (hb : Below w.heap.size w w') => ((hb.cell (p := ⟨go, p, none⟩) ht.lt).trans (ht.c p hpv)).trans ((List.getElem?_eq_getElem hpv).trans (congrArg some hv)))
  have HA := hidE hA
  rw [hl] at HD
  clear hA hx RW hv ht
  unfold aggV at *
  go_enter Try.func33, Try.ntmps33
  go_wp2_with fail
  refine HH.out.mono ?_
  rintro e w1 ⟨rfl, rfl⟩
  go_wp2_with fail
  refine (CK.out _).mono ?_
  rintro e w2 ⟨rfl, hb⟩
  have HB := nxt HA hb
  clear hb
  rw [show errV 0 = .nilIface from rfl]
  have c0 := HC.out w2 HB.out
  have c1 := HD.out w2 HB.out
  simp only [List.getElem?_cons_zero] at c0
  go_wp2_with fail
  go_ret
  exact ⟨rfl, HB.out⟩
end Go.Proofs.Ytepfpmagppckeab

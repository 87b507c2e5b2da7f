/- The contracts of a pane's Out, of panes.empty and of a pane's with, over this seat's translation. Conditions: as named. -/
import Derived.Test.YtoihjhhambgpfabPane1
namespace Go.Proofs.Ytoihjhhambgpfab
open Go.ChangeShapes Go.WideShapes Go.ChangeAt Go.RowKit
set_option linter.unusedVariables false
set_option linter.unusedSimpArgs false

theorem owns_setG {w : World} {base g n cap size : Nat} {e : TypeId} {xs : List Value} (h : w.ownsRow base e size (.slice (some ⟨g, 0, none⟩) n cap) n xs) (p : Nat) (u : Value) :
    (w.setCell ⟨g, p, none⟩ u).ownsRow base e size (.slice (some ⟨g, 0, none⟩) n cap) n (xs.set p u) := by
  obtain ⟨h0, h1⟩ := h
  refine ⟨by simpa using h0, ?_⟩
  rcases h1 with ⟨e1, -⟩ | ⟨g', cap', cur, e1, hb, hg, hle, hm, hs, ht⟩
  · cases e1
  · simp only [Value.slice.injEq, Option.some.injEq, Addr.mk.injEq, and_true, true_and] at e1
    obtain ⟨rfl, rfl⟩ := e1
    refine .inr ⟨g, cap, cur.setIfInBounds p u, rfl, hb, ?_, hle, hm, by simpa using hs, ?_⟩
    · simp [World.setCell, Array.getElem?_modify, hg]
    · rw [← ht, Array.toList_setIfInBounds, List.take_set]
theorem owns_thawG2 {w : World} {base g n cap size : Nat} {e : TypeId} {xs : List Value} (h : w.ownsRow base e size (.slice (some ⟨g, 0, none⟩) n cap) n xs) (o : Nat) : w.frozen? ⟨g, o, none⟩ = false := by
  obtain ⟨h0, h1⟩ := h
  rcases h1 with ⟨e1, -⟩ | ⟨g', cap', cur, e1, hb, hg, hle, hm, hs, ht⟩
  · cases e1
  · simp only [Value.slice.injEq, Option.some.injEq, Addr.mk.injEq, and_true, true_and] at e1
    obtain ⟨rfl, rfl⟩ := e1
    simp [World.frozen?, hg]
theorem owns_headG {w : World} {base n size : Nat} {e : TypeId} {v : Value} {xs : List Value} (h : w.ownsRow base e size v n xs) (h0 : 0 < n) : ∃ g cap, v = .slice (some ⟨g, 0, none⟩) n cap ∧ base ≤ g ∧ g < w.heap.size ∧ n ≤ cap ∧ cap ≤ maxLen := by
  rcases h.2 with ⟨-, hn⟩ | ⟨g, cap, cur, rfl, hb, hg, hle, hm, -⟩
  · omega
  · exact ⟨g, cap, rfl, hb, (Array.getElem?_eq_some_iff.1 hg).1, hle, hm⟩

section
variable {α : Type} {S : Nat} {f : α → List Value}
theorem rowOf_split (l : List α) (i : Nat) (hi : i < l.length) : rowOf f l = rowOf f (l.take i) ++ (f l[i] ++ rowOf f (l.drop (i + 1))) := by
  rw [← rowOf_cons, ← rowOf_app, ← List.drop_eq_getElem_cons hi, List.take_append_drop]
theorem rowOf_split_set (l : List α) (i : Nat) (a : α) (hi : i < l.length) : rowOf f (l.set i a) = rowOf f (l.take i) ++ (f a ++ rowOf f (l.drop (i + 1))) := by
  rw [List.set_eq_take_append_cons_drop, if_pos hi, rowOf_app, rowOf_cons]
theorem take_len (hf : ∀ a, (f a).length = S) (l : List α) (i : Nat) (hi : i < l.length) : (rowOf f (l.take i)).length = i * S := by
  rw [rowOf_len hf, List.length_take, Nat.min_eq_left (by omega)]
end
theorem set_two {A B : List Value} {x0 x1 u0 u1 : Value} {k : Nat} (h : A.length = k) : ((A ++ ([x0, x1] ++ B)).set k u0).set (k + 1) u1 = A ++ ([u0, u1] ++ B) := by
  subst h
  rw [List.set_append_right _ _ (Nat.le_refl _), List.set_append_right _ _ (by omega), Nat.sub_self, show A.length + 1 - A.length = 1 from by omega]
  rfl
theorem set_four {A B : List Value} {x0 x1 x2 x3 u0 u1 u2 u3 : Value} {k : Nat} (h : A.length = k) : ((((A ++ ([x0, x1, x2, x3] ++ B)).set k u0).set (k + 1) u1).set (k + 2) u2).set (k + 3) u3 = A ++ ([u0, u1, u2, u3] ++ B) := by
  subst h
  rw [List.set_append_right _ _ (Nat.le_refl _), List.set_append_right _ _ (by omega), List.set_append_right _ _ (by omega), List.set_append_right _ _ (by omega), Nat.sub_self, show A.length + 1 - A.length = 1 from by omega, show A.length + 2 - A.length = 2 from by omega, show A.length + 3 - A.length = 3 from by omega]
  rfl
theorem cellsV_len (p : V2) : (cellsV p).length = 2 := rfl
theorem rowV_is (l : List V2) : rowV l = rowOf cellsV l := rfl
theorem rowV_set (l : List V2) (i : Nat) (a : V2) (hi : i < l.length) : ((rowV l).set (i * 2) (.int .i64 a.1)).set (i * 2 + 1) (.int .i64 a.2) = rowV (l.set i a) := by
  rw [rowV_is, rowV_is, rowOf_split l i hi, rowOf_split_set l i a hi]
  exact set_two (take_len cellsV_len l i hi)
theorem rowA_set (l : List Ac) (i : Nat) (a : Ac) (hi : i < l.length) : ((((rowOf cellsA l).set (i * 4) (.int .i64 a.k)).set (i * 4 + 1) (.int .i64 a.n)).set (i * 4 + 2) (.int .i64 a.s)).set (i * 4 + 3) (.int .i64 a.b) = rowOf cellsA (l.set i a) := by
  rw [rowOf_split l i hi, rowOf_split_set l i a hi]
  exact set_four (take_len cellsA_len l i hi)

/-- what an accumulator says -/
def acV (a : Ac) : V2 := gval a.k (a.n, a.s, a.b)
theorem infoVv : (Try.prog.info? 59).map (fun i => (i.zero, i.size, i.bytes)) = some (some (.agg #[.int .i64 0, .int .i64 0]), 2, 16) := by kernel_rfl
theorem made_same (z : Array Value) (c : Value) (hz : ∀ i, i < z.size → z[i]! = c) (h0 : 0 < z.size) (n : Nat) : (madeCells z n).toList = List.replicate n c := by
  rw [List.eq_replicate_iff]
  refine ⟨by simp [madeCells], fun b hb => ?_⟩
  simp only [madeCells, Array.toList_map, List.mem_map] at hb
  obtain ⟨i, -, rfl⟩ := hb
  exact hz _ (Nat.mod_lt _ h0)
theorem made_vals (n : Nat) : (madeCells #[Value.int .i64 0, Value.int .i64 0] (n * 2)).toList = rowV (List.replicate n (0, 0)) := by
  rw [made_same _ (.int .i64 0) (fun i hi => by
    have : i < 2 := hi
    rcases (by omega : i = 0 ∨ i = 1) with rfl | rfl <;> rfl) (by decide)]
  symm
  rw [List.eq_replicate_iff]
  refine ⟨by rw [rowV_len]; simp, fun b hb => ?_⟩
  unfold rowV at hb
  rw [List.mem_flatMap] at hb
  obtain ⟨q, hq, hb⟩ := hb
  rw [List.eq_of_mem_replicate hq] at hb
  simpa [cellsV] using hb
theorem made_accs (n : Nat) : (madeCells #[Value.int .i64 0, Value.int .i64 0, Value.int .i64 0, Value.int .i64 0] (n * 4)).toList = rowOf cellsA (List.replicate n ⟨0, 0, 0, 0⟩) := by
  rw [made_same _ (.int .i64 0) (fun i hi => by
    have : i < 4 := hi
    rcases (by omega : i = 0 ∨ i = 1 ∨ i = 2 ∨ i = 3) with rfl | rfl | rfl | rfl <;> rfl) (by decide)]
  symm
  rw [List.eq_replicate_iff]
  refine ⟨by rw [rowOf_len cellsA_len]; simp, fun b hb => ?_⟩
  unfold rowOf at hb
  rw [List.mem_flatMap] at hb
  obtain ⟨q, hq, hb⟩ := hb
  rw [List.eq_of_mem_replicate hq] at hb
  simpa [cellsA] using hb
theorem vals_ext {L M : List V2} (h : L.length = M.length) (hk : ∀ j, j < L.length → L[j]? = M[j]?) : L = M := List.ext_getElem? fun i => by
  by_cases hi : i < L.length
  · exact hk i hi
  · rw [List.getElem?_eq_none (by omega), List.getElem?_eq_none (by omega)]

set_option maxRecDepth 100000 in
set_option maxHeartbeats 1000000 in
theorem out_any (p : Pn) (w : World) (hl : p.ac.length ≤ 100) (hr : AccR w p) (hk : ∀ a ∈ p.ac, 1 ≤ a.k ∧ a.k ≤ 5) :
    Calls Try.prog 41 #[aggP p] w fun e w' => ∃ u, e = .returned (.agg #[.int .i64 p.st, .int .i64 p.k, .int .i64 p.n, u]) ∧ w'.ownsRow w.heap.size 59 2 u p.ac.length (rowV (p.ac.map acV)) ∧ Below w.heap.size w w' := by
  obtain ⟨i0, hi, hz0, hz1, hz2⟩ := info_parts infoVv
  obtain ⟨st, k, n, told, ac, av⟩ := p
  obtain ⟨ao, cap, hav⟩ := rowS_shape hr
  simp only at hav hl hk
  subst hav
  unfold aggP
  simp only
  go_enter Try.func41, Try.ntmps41
  go_wp2_with (at_make; go_must (refine wpList_make_full _ rfl _ _ 53 rfl w.heap.size 59 i0 (.agg #[.int .i64 0, .int .i64 0]) 2 Try.underlying53 hi hz0 hz1 .i64 .i64 _ _ ac.length rfl rfl rfl rfl (by rw [hz2]; omega) (by show _ ≤ 2 ^ 63 - 1; omega) (by simp; omega) ?_))
  intro w1 ho hg
  have hsz : ((w.alloc (.cells #[.int .i64 st, .int .i64 k, .int .i64 n, .slice ao ac.length cap, .bool told] 94)).alloc (.cells #[.int .i64 0, .int .i64 0, .int .i64 0, .slice none 0 0] 99)).heap.size = w.heap.size + 2 := by simp
  have hb1 : Below ((w.alloc (.cells #[.int .i64 st, .int .i64 k, .int .i64 n, .slice ao ac.length cap, .bool told] 94)).alloc (.cells #[.int .i64 0, .int .i64 0, .int .i64 0, .slice none 0 0] 99)).heap.size ((w.alloc (.cells #[.int .i64 st, .int .i64 k, .int .i64 n, .slice ao ac.length cap, .bool told] 94)).alloc (.cells #[.int .i64 0, .int .i64 0, .int .i64 0, .slice none 0 0] 99)) w1 := (Below.refl _ _).grown hg (Nat.le_refl _) (fun k hk => by cases hk)
  have B0 := hidE (blk_below (blk_below (blk_alloc w [.int .i64 st, .int .i64 k, .int .i64 n, .slice ao ac.length cap, .bool told] 94 (by simp)) ((Below.refl _ _).alloc (Nat.le_refl _) (.cells #[.int .i64 0, .int .i64 0, .int .i64 0, .slice none 0 0] 99)) (by simp)) hb1 (by simp; omega))
  have B1 := hidE (blk_below (blk_alloc (w.alloc (.cells #[.int .i64 st, .int .i64 k, .int .i64 n, .slice ao ac.length cap, .bool told] 94)) [.int .i64 0, .int .i64 0, .int .i64 0, .slice none 0 0] 99 (by simp)) hb1 (by simp))
  rw [show (w.alloc (.cells #[.int .i64 st, .int .i64 k, .int .i64 n, .slice ao ac.length cap, .bool told] 94)).heap.size = w.heap.size + 1 from by simp] at B1
  have HB : Hid (Below w.heap.size w w1) := (((Below.refl w.heap.size w).alloc (Nat.le_refl _) _).alloc (by simp) _).trans (hb1.mono (by omega))
  have ho' : w1.ownsRow w.heap.size 59 2 (.slice (some ⟨w.heap.size + 1 + 1, 0, none⟩) ac.length ac.length) ac.length (rowV (List.replicate ac.length (0, 0))) := by
    rw [← made_vals]
    exact ho
  have HO := hidE ho'
  have HR := hidE hr
  have HK := hidE hk
  clear hb1 hsz ho ho' hg hr hk
  have c3 : w1.cell? ⟨w.heap.size, 3, none⟩ = some (.slice ao ac.length cap) := B0.out.c 3 (by simp)
  go_wp2_with fail
  clear c3
  go_loopw [13] (fun i wr => ∃ (m : Nat) (L : List V2), m ≤ ac.length ∧ L.length = ac.length ∧ i = .int .i64 m ∧ Hid (∀ j, j < m → L[j]? = (ac.map acV)[j]?) ∧ Hid (wr.ownsRow w.heap.size 59 2 (.slice (some ⟨w.heap.size + 1 + 1, 0, none⟩) ac.length ac.length) ac.length (rowV L)) ∧ Hid (BlkAt wr w.heap.size [.int .i64 st, .int .i64 k, .int .i64 n, .slice ao ac.length cap, .bool told]) ∧ Hid (BlkAt wr (w.heap.size + 1) [.int .i64 0, .int .i64 0, .int .i64 0, .slice none 0 0]) ∧ Hid (Below w.heap.size w wr)) (fun i _ => ac.length - (intOf i).toNat)
  case atStart => exact ⟨0, List.replicate ac.length (0, 0), Nat.zero_le _, by simp, rfl, fun j hj => absurd hj (by omega), HO, B0, B1, HB⟩
  case round =>
    clear HO B0 B1 HB
    obtain ⟨m, L, hm, hL, rfl, HM, HO, B0, B1, HB⟩ := hrel
    by_cases hlt : m < ac.length
    · obtain ⟨g, off, rfl, hcell, q1, q2, q3⟩ := rowOf_val cellsA_len (rowG_of_S (rowS_below HR.out HB.out)) m hlt
      have hkm := HK.out ac[m] (List.getElem_mem hlt)
      have HAV : Hid ((ac.map acV)[m]? = some (acV ac[m])) := by
        show _ = _
        rw [List.getElem?_map, List.getElem?_eq_getElem hlt]
        rfl
      generalize ac[m] = a at *
      obtain ⟨a1, a2, a3, a4⟩ := a
      have x0 : wr.cell? ⟨g, off + m * 4, none⟩ = some (.int .i64 a1) := hcell 0 (by omega)
      have x1 : wr.cell? ⟨g, off + m * 4 + 1, none⟩ = some (.int .i64 a2) := hcell 1 (by omega)
      have x2 : wr.cell? ⟨g, off + m * 4 + 2, none⟩ = some (.int .i64 a3) := hcell 2 (by omega)
      have x3 : wr.cell? ⟨g, off + m * 4 + 3, none⟩ = some (.int .i64 a4) := hcell 3 (by omega)
      clear hcell
      unfold maxLen at q2
      have GV := hidE (fun w => gvalue_any a1 a2 a3 a4 w hkm.1 hkm.2)
      have eV : acV ⟨a1, a2, a3, a4⟩ = gval a1 (a2, a3, a4) := rfl
      rw [eV] at HAV
      generalize gval a1 (a2, a3, a4) = V at *
      obtain ⟨V1, V2⟩ := V
      clear eV
      have hA := (Below.refl wr.heap.size wr).alloc (Nat.le_refl _) (.cells #[.int .i64 a1, .int .i64 a2, .int .i64 a3, .int .i64 a4] 55)
      go_wp2_with fail
      refine (GV.out _).mono ?_
      rintro e w2 ⟨rfl, hb⟩
      have hb2 : Below wr.heap.size wr w2 := hA.trans (hb.mono hA.size)
      have HO2 := hidE (own_keep HO.out hb2 (Nat.le_refl _))
      have B02 := hidE (blk_below B0.out hb2 B0.out.lt)
      have B12 := hidE (blk_below B1.out hb2 B1.out.lt)
      have HB2 := nxt HB hb2
      clear hA hb hb2 HO B0 B1 HB x0 x1 x2 x3
      have y0 := HO2.out.cellAt (m * 2) (by omega)
      have y1 := HO2.out.cellAt (m * 2 + 1) (by omega)
      have hrl : (rowV L).length = ac.length * 2 := by rw [rowV_len, hL]
      rw [List.getElem?_eq_getElem (by omega)] at y0 y1
      generalize (rowV L)[m * 2] = r0 at y0
      generalize (rowV L)[m * 2 + 1] = r1 at y1
      have z0 := owns_thawG2 HO2.out (m * 2)
      have z1 := owns_thawG2 HO2.out (m * 2 + 1)
      have HO3 := hidE (owns_setG (owns_setG HO2.out (m * 2) (.int .i64 V1)) (m * 2 + 1) (.int .i64 V2))
      rw [rowV_set L m (V1, V2) (by omega)] at HO3
      have B03 := hidE (blk_far (blk_far B02.out (g' := w.heap.size + 1 + 1) (by omega) (m * 2) (.int .i64 V1)) (g' := w.heap.size + 1 + 1) (by omega) (m * 2 + 1) (.int .i64 V2))
      have B13 := hidE (blk_far (blk_far B12.out (g' := w.heap.size + 1 + 1) (by omega) (m * 2) (.int .i64 V1)) (g' := w.heap.size + 1 + 1) (by omega) (m * 2 + 1) (.int .i64 V2))
      have HB3 := hidE ((HB2.out.setCell (p := ⟨w.heap.size + 1 + 1, m * 2, none⟩) (by simp; omega) (.int .i64 V1)).setCell (p := ⟨w.heap.size + 1 + 1, m * 2 + 1, none⟩) (by simp; omega) (.int .i64 V2))
      have HLL := hidE hL
      clear hrl HO2 B02 B12 HB2 hL
      go_wp2_with fail
      go_roundw
      case rel => exact ⟨m + 1, L.set m (V1, V2), by omega, by simpa using HLL.out, by go_num, fun j hj => by
          by_cases h9 : j = m
          · subst h9
            rw [HAV.out, List.getElem?_set]
            simp [HLL.out, hlt]
          · rw [List.getElem?_set, if_neg (fun e => h9 e.symm)]
            exact HM.out j (by omega), HO3, B03, B13, HB3⟩
      case measure => simp [intOf]; omega
    · have hme : m = ac.length := by omega
      subst hme
      have HLe : Hid (L = ac.map acV) := vals_ext (by simp [hL]) (fun j hj => HM.out j (by omega))
      have d0 : wr.cell? ⟨w.heap.size, 0, none⟩ = some (.int .i64 st) := B0.out.c 0 (by simp)
      have d1 : wr.cell? ⟨w.heap.size, 1, none⟩ = some (.int .i64 k) := B0.out.c 1 (by simp)
      have d2 : wr.cell? ⟨w.heap.size, 2, none⟩ = some (.int .i64 n) := B0.out.c 2 (by simp)
      have g0 : wr.cell? ⟨w.heap.size + 1, 0, none⟩ = some (.int .i64 0) := B1.out.c 0 (by simp)
      have g1 : wr.cell? ⟨w.heap.size + 1, 1, none⟩ = some (.int .i64 0) := B1.out.c 1 (by simp)
      have g2 : wr.cell? ⟨w.heap.size + 1, 2, none⟩ = some (.int .i64 0) := B1.out.c 2 (by simp)
      have g3 : wr.cell? ⟨w.heap.size + 1, 3, none⟩ = some (.slice none 0 0) := B1.out.c 3 (by simp)
      have z := B1.out.fz
      have z0 := z 0
      have z1 := z 1
      have z2 := z 2
      have z3 := z 3
      have NE : Hid ((Value.slice (some ⟨w.heap.size + 1 + 1, 0, none⟩) ac.length ac.length).ownBlock ≠ some (w.heap.size + 1)) := by
        show _ ≠ _
        simp [Value.ownBlock]
      rw [HLe.out] at HO
      clear z hL HLe
      go_wp2_with fail
      refine bodyPost_ret (v := .agg #[.int .i64 st, .int .i64 k, .int .i64 n, .slice (some ⟨w.heap.size + 1 + 1, 0, none⟩) ac.length ac.length]) (by simp [results, Try.results41, go_sem, g0, g1, g2, g3]) rfl ⟨_, rfl, ?_, ?_⟩
      · iterate 4 (refine ownsRow_setCell_other ?_ NE.out _)
        exact HO.out
      · iterate 4 (refine Below.setCell ?_ (by first | (simp; done) | (simp; omega)) _)
        exact HB.out
end Go.Proofs.Ytoihjhhambgpfab

/- The law TopClock, over this seat's translation. Conditions: none. -/
import Derived.Test.YtepfpmagppckeabClock2
import Derived.Test.YtepfpmagppckeabGather2
import Derived.Test.YtepfpmagppckeabNums
namespace Go.Proofs.Ytepfpmagppckeab
open Go.ChangeShapes Go.WideShapes Go.ChangeAt Go.RowKit
set_option linter.unusedVariables false
set_option linter.unusedSimpArgs false

/-- which part a number names -/
def placeN (a : Int) (k : Nat) : Nat := ((bits .and .i64 a 1023).tmod (k : Int)).toNat
theorem placeN_is (a : Int) (k : Nat) (hk : 0 < k) : placeN a k < k ∧ (bits .and .i64 a 1023).tmod (k : Int) = (placeN a k : Int) := by
  have h0 : 0 ≤ bits .and .i64 a 1023 := by
    show 0 ≤ IntKind.i64.wrap ((BitVec.ofInt 64 a &&& BitVec.ofInt 64 1023).toNat : Int)
    have h2 : (BitVec.ofInt 64 1023).toNat = 1023 := by decide
    have h : (BitVec.ofInt 64 a).toNat &&& 1023 ≤ 1023 := Nat.and_le_right
    rw [BitVec.toNat_and, h2, IntKind.wrap_i64]
    omega
  have h1 := Int.tmod_nonneg (k : Int) h0
  have h2 := Int.tmod_lt_of_pos (bits .and .i64 a 1023) (by omega : (0 : Int) < k)
  unfold placeN
  omega
def plc (k : Nat) (l : List V2) : List (Nat × Int) := l.map fun q => (placeN q.1 k, q.2)

theorem see_le {G : List Int} {p : Nat} {t B : Int} (h : ∀ j, j < G.length → G.getD j 0 ≤ B) (ht : t ≤ B) : ∀ j, j < (seeL G p t).length → (seeL G p t).getD j 0 ≤ B := fun j hj => by
  rw [see_len] at hj
  rw [see_get _ _ _ _ hj]
  split
  · have := h p (by omega)
    omega
  · exact h j hj
theorem see_ge {G : List Int} {p : Nat} {t B : Int} (h : ∀ j, j < G.length → B ≤ G.getD j 0) : ∀ j, j < (seeL G p t).length → B ≤ (seeL G p t).getD j 0 := fun j hj => by
  rw [see_len] at hj
  rw [see_get _ _ _ _ hj]
  split
  · have := h j hj
    subst_vars
    omega
  · exact h j hj

/-- a variable of one cell -/
structure VarAt (w : World) (g : Nat) (v : Value) : Prop where
  c0 : w.cell? ⟨g, 0, none⟩ = some v
  fz : ∀ o, w.frozen? ⟨g, o, none⟩ = false
  lt : g < w.heap.size
theorem var_new (w : World) (v : Value) (e : TypeId) : VarAt (w.alloc (.cells #[v] e)) w.heap.size v := ⟨by go_simp, fun o => by go_simp, by simp⟩
theorem var_below {w w' : World} {B g : Nat} {v : Value} (h : VarAt w g v) (hb : Below B w w') (hg : g < B) : VarAt w' g v :=
  ⟨(hb.cell (p := ⟨g, 0, none⟩) hg).trans h.c0, fun o => (hb.frozen (p := ⟨g, o, none⟩) hg).trans (h.fz o), Nat.lt_of_lt_of_le h.lt hb.size⟩
theorem var_set {w : World} {g : Nat} {v : Value} (h : VarAt w g v) (v' : Value) : VarAt (w.setCell ⟨g, 0, none⟩ v') g v' :=
  ⟨World.cell?_setCell_same _ _ _ h.c0, fun o => (World.frozen?_setCell _ _ _ _).trans (h.fz o), by simpa [World.setCell] using h.lt⟩
theorem var_far {w : World} {g g' : Nat} {v : Value} (h : VarAt w g v) (hg : g' ≠ g) (o : Nat) (v' : Value) : VarAt (w.setCell ⟨g', o, none⟩ v') g v :=
  ⟨(cell_other (.inl hg)).trans h.c0, fun o => (World.frozen?_setCell _ _ _ _).trans (h.fz o), by simpa [World.setCell] using h.lt⟩

theorem owns_base {w : World} {base base' n size : Nat} {e : TypeId} {v : Value} {xs : List Value} (h : w.ownsRow base e size v n xs) (hb : base' ≤ base) : w.ownsRow base' e size v n xs := by
  obtain ⟨h0, h1⟩ := h
  refine ⟨h0, ?_⟩
  rcases h1 with h1 | ⟨g, cap, cur, e1, hb', hg', hle, hm, hs, ht⟩
  · exact .inl h1
  · exact .inr ⟨g, cap, cur, e1, by omega, hg', hle, hm, hs, ht⟩

/-- a variable (block b) that holds a clock whose row is of its own; bo: another variable -/
structure Clk (B0 : Nat) (wr : World) (b bo P g cap : Nat) (G : List Int) : Prop where
  va : VarAt wr b (.slice (some ⟨g, 0, none⟩) P cap)
  ow : wr.ownsRow B0 3 1 (.slice (some ⟨g, 0, none⟩) P cap) P (G.map (Value.int .i64))
  n1 : b ≠ g
  n2 : bo ≠ g
  len : G.length = P
theorem clk_below {B0 b bo P g cap : Nat} {G : List Int} {w w' : World} (h : Clk B0 w b bo P g cap G) (hb : Below w.heap.size w w') : Clk B0 w' b bo P g cap G :=
  ⟨var_below h.va hb h.va.lt, own_keep h.ow hb (Nat.le_refl _), h.n1, h.n2, h.len⟩
theorem clk_other {B0 b bo P g cap : Nat} {G : List Int} {w : World} (h : Clk B0 w b bo P g cap G) (hbo : bo ≠ b) (v : Value) : Clk B0 (w.setCell ⟨bo, 0, none⟩ v) b bo P g cap G :=
  ⟨var_far h.va hbo 0 v, owns_far2 h.ow h.n2 0 v, h.n1, h.n2, h.len⟩
theorem clk_set {B0 b bo P g cap g' cap' : Nat} {G G' : List Int} {w : World} (h : Clk B0 w b bo P g cap G) (ho : w.ownsRow B0 3 1 (.slice (some ⟨g', 0, none⟩) P cap') P (G'.map (Value.int .i64))) (h1 : b ≠ g') (h2 : bo ≠ g') (hl : G'.length = P) :
    Clk B0 (w.setCell ⟨b, 0, none⟩ (.slice (some ⟨g', 0, none⟩) P cap')) b bo P g' cap' G' :=
  ⟨var_set h.va _, owns_far2 ho h1 0 _, h1, h2, hl⟩
theorem clk_row {B0 b bo P g cap : Nat} {G : List Int} {w : World} (h : Clk B0 w b bo P g cap G) : RowC w (.slice (some ⟨g, 0, none⟩) P cap) G := by
  have := rowG_of_owns h.ow
  unfold RowC
  rw [h.len]
  exact this

def tupV (x delay : Int) : Int × Bool := if x ≤ -1 then (0, false) else (RowKit.wrap64 (x - delay), true)
theorem partV_is (x delay : Int) : partV x delay = .tuple #[.int .i64 (tupV x delay).1, .bool (tupV x delay).2] := by
  unfold partV tupV
  split <;> rfl
theorem tup_grows {x y delay : Int} (h : x ≤ y) (hy : y ≤ 9999) (h0 : 0 ≤ delay) (h1 : delay ≤ 1000) : (tupV x delay).2 = true → (tupV y delay).2 = true ∧ (tupV x delay).1 ≤ (tupV y delay).1 := by
  unfold tupV
  intro hk
  split at hk
  · cases hk
  · rw [if_neg (by omega), if_neg (by omega)]
    refine ⟨rfl, ?_⟩
    show RowKit.wrap64 _ ≤ RowKit.wrap64 _
    rw [IntWalk.wrap64_in _ (by omega), IntWalk.wrap64_in _ (by omega)]
    omega

set_option maxRecDepth 100000 in
set_option maxHeartbeats 1000000 in
theorem topClock_walk (parts delay : Int) (l : List V2) (u : Value) (w : World) (hu : RowG w u 2 l.length (rowV l)) (hl : l.length ≤ maxLen) :
    Calls Try.prog 9 #[.int .i64 parts, u, .int .i64 delay] w fun e w' => e = .returned (.bool true) ∧ Below w.heap.size w w' := by
  obtain ⟨ao, cap, rfl⟩ := rowG_shape hu
  have HU := hidE hu
  clear hu
  unfold maxLen at hl
  have N1 := hidE (fun w => cnew_any 1 w (by decide) (by decide))
  have S1 : Hid (∀ w v, RowC w v (noneL 1) → Calls Try.prog 18 #[.agg #[v], .int .i64 0, .int .i64 7] w fun e w' => ∃ u, e = .returned (.agg #[u]) ∧ w'.ownsRow w.heap.size 3 1 u 1 [.int .i64 7] ∧ Below w.heap.size w w') := fun w v h => see_any (noneL 1) v 0 7 w (by decide) (by decide) h
  have A1 : Hid (∀ w v, RowC w v [7] → Calls Try.prog 19 #[.agg #[v], .int .i64 2] w fun e w' => e = .returned (.tuple #[.int .i64 5, .bool true]) ∧ Below w.heap.size w w') := fun w v h => by
    have q := all_any [7] v 2 w (by decide) (by decide) h
    have e : partV (minOf [7]) 2 = .tuple #[.int .i64 5, .bool true] := by simp [partV, minOf, RowKit.wrap64]
    rw [e] at q
    exact q
  go_enter Try.func9, Try.ntmps9
  go_wp2_with fail
  refine (N1.out _).mono ?_
  rintro e w1 ⟨u1, rfl, ho, hb⟩
  have HB := hidE hb
  have R1 := rowG_of_owns ho
  obtain ⟨g1, cap1, rfl, -, -⟩ := owns_head ho (by decide)
  clear hb ho
  have l1 : (noneL 1).length = 1 := rfl
  rw [l1]
  go_wp2_with fail
  have hA1 := (Below.refl w1.heap.size w1).alloc (Nat.le_refl _) (.cells #[.slice (some ⟨g1, 0, none⟩) 1 cap1] 29)
  have hlt1 : w.heap.size ≤ w1.heap.size := HB.out.size
  refine (S1.out _ _ (rowG_below R1 hA1)).mono ?_
  rintro e w2 ⟨u2, rfl, ho, hb⟩
  have VC := hidE (var_below (var_new w1 (.slice (some ⟨g1, 0, none⟩) 1 cap1) 29) hb (by simp))
  have HB := nxt (nxta HB (.cells #[.slice (some ⟨g1, 0, none⟩) 1 cap1] 29)) hb
  have R2 : RowC w2 u2 [7] := rowG_of_owns ho
  obtain ⟨g2, cap2, rfl, -, -⟩ := owns_head ho (by decide)
  clear hb ho hA1 R1
  go_wp2_with fail
  refine (A1.out _ _ R2).mono ?_
  rintro e w3 ⟨rfl, hb⟩
  have VC := hidE (var_below VC.out hb VC.out.lt)
  have HB := nxt HB hb
  have hw3 : w.heap.size ≤ w3.heap.size := HB.out.size
  clear hb R2 S1 A1 N1 l1
  generalize w1.heap.size = bc at *
  by_cases c1 : l.length ≤ 60
  case neg =>
    go_wp2_with fail
    go_ret
    exact ⟨rfl, HB.out⟩
  have d1' : decide (60 < (l.length : Int)) = false := by simp; omega
  by_cases c2 : 0 ≤ delay
  case neg => go_wp2_with fail; go_ret; exact ⟨rfl, HB.out⟩
  have d2 : decide (delay < 0) = false := by simp; omega
  by_cases c3 : delay ≤ 1000
  case neg => go_wp2_with fail; go_ret; exact ⟨rfl, HB.out⟩
  have d3 : decide (1000 < delay) = false := by simp; omega
  by_cases c4 : 1 ≤ parts
  case neg => go_wp2_with fail; go_ret; exact ⟨rfl, HB.out⟩
  have d4 : decide (parts < 1) = false := by simp; omega
  by_cases c5 : parts ≤ 3
  case neg => go_wp2_with fail; go_ret; exact ⟨rfl, HB.out⟩
  have d5 : decide (3 < parts) = false := by simp; omega
  obtain ⟨P, rfl⟩ : ∃ P : Nat, parts = (P : Int) := ⟨parts.toNat, by omega⟩
  have p1 : 1 ≤ P := by omega
  have p3 : P ≤ 3 := by omega
  have NP := hidE (fun w => cnew_any P w p1 p3)
  rw [none_len] at NP
  obtain ⟨vk0, vkf, vkl⟩ := VC.out
  go_wp2_with fail
  refine (NP.out _).mono ?_
  rintro e w4 ⟨u4, rfl, ho, hb⟩
  have VC := hidE (var_below VC.out hb VC.out.lt)
  have hg4 := VC.out.lt
  obtain ⟨g4, cap4, rfl, hg4a, hg4b⟩ := owns_head ho p1
  have hgc4 : g4 ≠ bc := by omega
  have HOC := hidE ho
  have HB := nxt HB hb
  clear hb ho vk0 vkf vkl hg4
  obtain ⟨vk0, vkf, vkl⟩ := VC.out
  have hbw : w.heap.size ≤ bc := hlt1
  go_wp2_with fail
  clear vk0 vkf vkl
  have VC := hidE (var_set VC.out (.slice (some ⟨g4, 0, none⟩) P cap4))
  have HOC := hidE (owns_far2 HOC.out hgc4.symm 0 (.slice (some ⟨g4, 0, none⟩) P cap4))
  have HB := hidE (HB.out.setCell (p := ⟨bc, 0, none⟩) hbw (.slice (some ⟨g4, 0, none⟩) P cap4))
  generalize w4.setCell ⟨bc, 0, none⟩ (.slice (some ⟨g4, 0, none⟩) P cap4) = w5 at *
  have hbc5 : bc < w5.heap.size := VC.out.lt
  have hg45 : g4 < w5.heap.size := by
    obtain ⟨g, cap, e, -, h⟩ := owns_head HOC.out p1
    simp only [Value.slice.injEq, Option.some.injEq, Addr.mk.injEq, and_true, true_and] at e
    omega
  have hw5 : w.heap.size ≤ w5.heap.size := by omega
  refine (NP.out _).mono ?_
  rintro e w6 ⟨u6, rfl, ho, hb⟩
  have VC := hidE (var_below VC.out hb VC.out.lt)
  have HOC := hidE (own_keep HOC.out hb (Nat.le_refl _))
  obtain ⟨g6, cap6, rfl, hg6a, hg6b⟩ := owns_head ho p1
  have HOD := hidE ho
  have HB := nxt HB hb
  have VD := hidE (var_new w6 (.slice (some ⟨g6, 0, none⟩) P cap6) 29)
  have hA6 := (Below.refl w6.heap.size w6).alloc (Nat.le_refl _) (.cells #[.slice (some ⟨g6, 0, none⟩) P cap6] 29)
  have CC : Hid (Clk w.heap.size (w6.alloc (.cells #[.slice (some ⟨g6, 0, none⟩) P cap6] 29)) bc w6.heap.size P g4 cap4 (seenL P ((plc P l).take 0))) := clk_below (⟨VC.out, owns_base HOC.out hw3, hgc4.symm, by have := hb.size; omega, none_len P⟩ : Clk w.heap.size w6 bc w6.heap.size P g4 cap4 (noneL P)) hA6
  have CD : Hid (Clk w.heap.size (w6.alloc (.cells #[.slice (some ⟨g6, 0, none⟩) P cap6] 29)) w6.heap.size bc P g6 cap6 (seenL P ((plc P l).reverse.take 0))) := ⟨VD.out, owns_base (own_keep HOD.out hA6 (Nat.le_refl _)) hw5, by omega, by omega, none_len P⟩
  have HB := nxta HB (.cells #[.slice (some ⟨g6, 0, none⟩) P cap6] 29)
  have hbd : w.heap.size ≤ w6.heap.size := by have := hb.size; omega
  have hcd : bc ≠ w6.heap.size := by have := hb.size; omega
  clear hb ho hA6 VC VD HOC HOD hgc4 hg4a hg4b hg6a hg6b hbc5 hg45 hw3 hw5 NP
  go_wp2_with fail
  generalize (w6.alloc (.cells #[.slice (some ⟨g6, 0, none⟩) P cap6] 29)) = w7 at *
  generalize w6.heap.size = bd at *
  have hlen0 : (plc P l).length = l.length := by simp [plc]
  go_loopw [14] (fun i wr => ∃ (n gc capc gd capd : Nat), n ≤ l.length ∧ i = .int .i64 n ∧ Hid (Below w.heap.size w wr) ∧ Hid (Clk w.heap.size wr bc bd P gc capc (seenL P ((plc P l).take n))) ∧ Hid (Clk w.heap.size wr bd bc P gd capd (seenL P ((plc P l).reverse.take n))) ∧ Hid (∀ j, j < (seenL P ((plc P l).take n)).length → (seenL P ((plc P l).take n)).getD j 0 ≤ 9999)) (fun i _ => l.length - (intOf i).toNat)
  case atStart => exact ⟨0, _, _, _, _, Nat.zero_le _, rfl, HB, CC, CD, fun j hj => by
      show (noneL P).getD j 0 ≤ 9999
      simp [noneL, List.getD, List.getElem?_replicate]
      split <;> simp⟩
  case round =>
    clear HB CC CD
    obtain ⟨n, gc, capc, gd, capd, hn, rfl, HB, CC, CD, BD⟩ := hrel
    by_cases hlt : n < l.length
    case neg =>
      have hnl : n = l.length := by omega
      subst hnl
      have e1 : (plc P l).take l.length = plc P l := by rw [← hlen0, List.take_length]
      have e2 : (plc P l).reverse.take l.length = (plc P l).reverse := List.take_of_length_le (by simp [hlen0])
      rw [e1] at CC
      rw [e2, seen_rev] at CD
      clear e1 e2 BD
      have hlG : (seenL P (plc P l)).length = P := seen_len _ _
      generalize seenL P (plc P l) = G at *
      obtain ⟨i0, ifz, ilt⟩ := CC.out.va
      obtain ⟨j0, jfz, jlt⟩ := CD.out.va
      have rI : ∀ {b bo g cap}, Clk w.heap.size wr b bo P g cap G → RowI wr (.slice (some ⟨g, 0, none⟩) P cap) G := fun h => by
        obtain ⟨g', off', cap', e, h1, h2, h3, h4⟩ := rowC_at (clk_row h) (by omega)
        exact .inr ⟨g', off', cap', e, h1, h2, h3, h4⟩
      have SN := hidE (nums_any wr _ _ G G (rI CC.out) (rI CD.out) rfl)
      rw [show decide (G = G) = true from by simp] at SN
      clear rI
      go_wp2_with fail
      refine SN.out.mono ?_
      rintro e wz ⟨rfl, hb⟩
      have HB := nxt HB hb
      clear hb
      go_wp2_with fail
      go_ret
      exact ⟨rfl, HB.out⟩
    case pos =>
      obtain ⟨g, off, rfl, e1, e2, q1, q2, q3⟩ := rowV_in HU.out HB.out n hlt
      obtain ⟨g', off', e', f1, f2, -, -, -⟩ := rowV_in HU.out HB.out (l.length - 1 - n) (by omega)
      simp only [Option.some.injEq, Addr.mk.injEq, and_true] at e'
      obtain ⟨rfl, rfl⟩ := e'
      have T1 : Hid (seenL P ((plc P l).take (n + 1)) = seeL (seenL P ((plc P l).take n)) (placeN l[n].1 P) l[n].2) := by
        show _ = _
        have hq : (plc P l)[n]? = some (placeN l[n].1 P, l[n].2) := by simp [plc, hlt]
        rw [List.take_add_one, hq]
        exact seen_snoc P _ (placeN l[n].1 P, l[n].2)
      have T2 : Hid (seenL P ((plc P l).reverse.take (n + 1)) = seeL (seenL P ((plc P l).reverse.take n)) (placeN l[l.length - 1 - n].1 P) l[l.length - 1 - n].2) := by
        show _ = _
        have hq : (plc P l).reverse[n]? = some (placeN l[l.length - 1 - n].1 P, l[l.length - 1 - n].2) := by
          rw [List.getElem?_reverse (by rw [hlen0]; exact hlt), hlen0]
          simp [plc, show l.length - 1 - n < l.length from by omega]
        rw [List.take_add_one, hq]
        exact seen_snoc P _ (placeN l[l.length - 1 - n].1 P, l[l.length - 1 - n].2)
      have F1 := hidE f1
      have F2 := hidE f2
      clear f1 f2
      generalize seenL P ((plc P l).take n) = G at *
      generalize seenL P ((plc P l).reverse.take n) = D at *
      generalize l[l.length - 1 - n] = rr at *
      generalize l[n] = vv at *
      obtain ⟨v1, v2⟩ := vv
      obtain ⟨r1, r2⟩ := rr
      simp only at e1 e2 T1 T2 F1 F2
      have PV := hidE (placeN_is v1 P p1)
      have PR := hidE (placeN_is r1 P p1)
      generalize placeN v1 P = pv at *
      generalize placeN r1 P = pr at *
      have hpv := PV.out.1
      have hpr := PR.out.1
      have PV2 := hidE PV.out.2
      have PR2 := hidE PR.out.2
      obtain ⟨d, hd⟩ : ∃ d, l.length - 1 - n = d := ⟨_, rfl⟩
      rw [hd] at F1 F2
      have hdl : (l.length : Int) - 1 - (n : Int) = (d : Int) := by omega
      have dlt : d < l.length := by omega
      clear hd PV PR
      unfold maxLen at q2
      by_cases t1 : 0 ≤ v2
      case neg => go_wp2_with fail; go_ret; exact ⟨rfl, HB.out⟩
      have dt1 : decide (v2 < 0) = false := by simp; omega
      by_cases t2 : v2 ≤ 9999
      case neg => go_wp2_with fail; go_ret; exact ⟨rfl, HB.out⟩
      have dt2 : decide (9999 < v2) = false := by simp; omega
      have hgr : g < wr.heap.size := Nat.lt_of_lt_of_le q3 HB.out.size
      obtain ⟨i0, ifz, ilt⟩ := CC.out.va
      have AL := hidE (all_any G _ delay wr (by have := CC.out.len; omega) (by have := CC.out.len; omega) (clk_row CC.out))
      rw [partV_is] at AL
      have GR := hidE (tup_grows (delay := delay) (min_grows (G := G) (p := pv) (t := v2) (by have := CC.out.len; omega)) (by
        have h1 := see_le (p := pv) (t := v2) BD.out t2
        have h2 := CC.out.len
        have h3 := min_le (seeL G pv v2) 0 (by rw [see_len]; omega)
        have h4 := h1 0 (by rw [see_len]; omega)
        omega) c2 c3)
      generalize hTX : tupV (minOf G) delay = TX at *
      obtain ⟨kw, kb⟩ := TX
      simp only at AL GR
      clear hTX
      go_wp2_with fail
      refine AL.out.mono ?_
      rintro e w8 ⟨rfl, hb⟩
      rw [← hb.cell (p := ⟨g, _, none⟩) hgr] at e1 e2
      have F1 := hidE ((hb.cell (p := ⟨g, _, none⟩) hgr).trans F1.out)
      have F2 := hidE ((hb.cell (p := ⟨g, _, none⟩) hgr).trans F2.out)
      have CC := hidE (clk_below CC.out hb)
      have CD := hidE (clk_below CD.out hb)
      have HB := nxt HB hb
      clear hb i0 ifz ilt AL hgr
      have HB9 := HB
      have hS0 : SKeep w8 bc { w8 with drawn := w8.drawn + 1 } := fun _ _ _ _ => rfl
      have hd0 : Below w8.heap.size w8 { w8 with drawn := w8.drawn + 1 } := (Below.refl _ _).drew
      have HD := nxt HB hd0
      have A0 := hidE (clk_below CC.out hd0)
      have O0 := hidE (clk_below CD.out hd0)
      obtain ⟨i0, ifz, ilt⟩ := A0.out.va
      have hgl : g < w8.heap.size := Nat.lt_of_lt_of_le q3 HB.out.size
      have hgg : g ≠ bc := by omega
      have HDD := hidE hd0
      clear hd0
      go_wp2_with fail
      refine wp_region_held (S := SKeep w8 bc) (by kernel_rfl) ?_
      generalize hwd : ({ w8 with drawn := w8.drawn + 1 } : World) = wd at *
      clear hwd
      refine held_take (i := 1) (v := .slice (some ⟨g, off, none⟩) l.length cap) (L := #[false, true, false, false, false, false, false, false, false, false, false, false, false, false, false, false]) rfl (by kernel_rfl) (by kernel_rfl) (by kernel_rfl) (fun c a w h => h) (Or.inl ⟨by kernel_rfl, fun wq h => by go_simp⟩) hS0 (by kernel_rfl) ?_
      refine held_take (i := 2) (v := .int .i64 (n : Int)) (L := #[false, true, true, false, false, false, false, false, false, false, false, false, false, false, false, false]) rfl (by kernel_rfl) (by kernel_rfl) (by kernel_rfl) (fun c a w h => h) (Or.inl ⟨by kernel_rfl, fun wq h => by go_simp⟩) hS0 (by kernel_rfl) ?_
      refine held_take (i := 3) (v := .pointer (some ⟨g, off + n * 2, none⟩)) (L := #[false, true, true, true, false, false, false, false, false, false, false, false, false, false, false, false]) rfl (by kernel_rfl) (by kernel_rfl) (by kernel_rfl) (fun c a w h => h) (Or.inl ⟨by kernel_rfl, fun wq h => by go_simp⟩) hS0 (by kernel_rfl) ?_
      refine held_take (i := 4) (v := .pointer (some ⟨g, off + n * 2, none⟩)) (L := #[false, true, true, true, true, false, false, false, false, false, false, false, false, false, false, false]) rfl (by kernel_rfl) (by kernel_rfl) (by kernel_rfl) (fun c a w h => h) (Or.inl ⟨by kernel_rfl, fun wq h => by go_simp⟩) hS0 (by kernel_rfl) ?_
      refine held_take (i := 5) (v := .int .i64 v1) (L := #[false, true, true, true, true, true, false, false, false, false, false, false, false, false, false, false]) rfl (by kernel_rfl) (by kernel_rfl) (by kernel_rfl) (fun c a w h => h) (Or.inl ⟨by kernel_rfl, fun wq h => by have q := h g (off + n * 2) hgl hgg; rw [e1] at q; go_simp⟩) hS0 (by kernel_rfl) ?_
      refine held_take (i := 6) (v := .int .i64 (bits .and .i64 v1 1023)) (L := #[false, true, true, true, true, true, true, false, false, false, false, false, false, false, false, false]) rfl (by kernel_rfl) (by kernel_rfl) (by kernel_rfl) (fun c a w h => h) (Or.inl ⟨by kernel_rfl, fun wq h => by go_simp⟩) hS0 (by kernel_rfl) ?_
      refine held_take (i := 7) (v := .int .i64 (P : Int)) (L := #[false, true, true, true, true, true, true, true, false, false, false, false, false, false, false, false]) rfl (by kernel_rfl) (by kernel_rfl) (by kernel_rfl) (fun c a w h => h) (Or.inl ⟨by kernel_rfl, fun wq h => by go_simp⟩) hS0 (by kernel_rfl) ?_
      refine held_take (i := 8) (v := .int .i64 (pv : Int)) (L := #[false, true, true, true, true, true, true, true, true, false, false, false, false, false, false, false]) rfl (by kernel_rfl) (by kernel_rfl) (by kernel_rfl) (fun c a w h => h) (Or.inl ⟨by kernel_rfl, fun wq h => by have q9 := PV2.out; go_simp; omega⟩) hS0 (by kernel_rfl) ?_
      refine held_take (i := 9) (v := .slice (some ⟨g, off, none⟩) l.length cap) (L := #[false, true, true, true, true, true, true, true, true, true, false, false, false, false, false, false]) rfl (by kernel_rfl) (by kernel_rfl) (by kernel_rfl) (fun c a w h => h) (Or.inl ⟨by kernel_rfl, fun wq h => by go_simp⟩) hS0 (by kernel_rfl) ?_
      refine held_take (i := 10) (v := .int .i64 (n : Int)) (L := #[false, true, true, true, true, true, true, true, true, true, true, false, false, false, false, false]) rfl (by kernel_rfl) (by kernel_rfl) (by kernel_rfl) (fun c a w h => h) (Or.inl ⟨by kernel_rfl, fun wq h => by go_simp⟩) hS0 (by kernel_rfl) ?_
      refine held_take (i := 11) (v := .pointer (some ⟨g, off + n * 2, none⟩)) (L := #[false, true, true, true, true, true, true, true, true, true, true, true, false, false, false, false]) rfl (by kernel_rfl) (by kernel_rfl) (by kernel_rfl) (fun c a w h => h) (Or.inl ⟨by kernel_rfl, fun wq h => by go_simp⟩) hS0 (by kernel_rfl) ?_
      refine held_take (i := 12) (v := .pointer (some ⟨g, off + n * 2 + 1, none⟩)) (L := #[false, true, true, true, true, true, true, true, true, true, true, true, true, false, false, false]) rfl (by kernel_rfl) (by kernel_rfl) (by kernel_rfl) (fun c a w h => h) (Or.inl ⟨by kernel_rfl, fun wq h => by go_simp⟩) hS0 (by kernel_rfl) ?_
      refine held_take (i := 13) (v := .int .i64 v2) (L := #[false, true, true, true, true, true, true, true, true, true, true, true, true, true, false, false]) rfl (by kernel_rfl) (by kernel_rfl) (by kernel_rfl) (fun c a w h => h) (Or.inl ⟨by kernel_rfl, fun wq h => by have q := h g (off + n * 2 + 1) hgl hgg; rw [e2] at q; go_simp⟩) hS0 (by kernel_rfl) ?_
      refine held_go (i := 0) (L := #[true, true, true, true, true, true, true, true, true, true, true, true, true, true, false, false]) (by kernel_rfl) rfl (by kernel_rfl) (by kernel_rfl) ?_
      intro K' hK
      go_simp
      refine hK _ _ ⟨hS0, ?_⟩
      clear hK
      refine held_go (i := 14) (L := #[true, true, true, true, true, true, true, true, true, true, true, true, true, true, true, false]) (by kernel_rfl) rfl (by kernel_rfl) (by kernel_rfl) ?_
      intro K' hK
      go_simp
      have hlG : G.length = P := CC.out.len
      refine (see_any G _ pv v2 _ (by omega) (by omega) (clk_row A0.out)).mono ?_
      rintro e wc ⟨u9, rfl, ho, hb⟩
      rw [see_len, hlG] at ho
      obtain ⟨g9, cap9, rfl, hx1, hx2⟩ := owns_head ho p1
      have SK := hidE (keep_below bc (HDD.out.trans (hb.mono HDD.out.size)))
      refine hK _ _ ⟨SK.out, ?_⟩
      clear hK i0 ifz ilt
      have HC := nxt HD hb
      have OC := hidE (clk_below O0.out hb)
      have AC := hidE (clk_below A0.out hb)
      have hbx : bc ≠ g9 := by have := A0.out.va.lt; omega
      have hby : bd ≠ g9 := by have := O0.out.va.lt; omega
      have ow9 := owns_base ho (by have := HD.out.size; omega : w.heap.size ≤ _)
      obtain ⟨i0, ifz, ilt⟩ := AC.out.va
      clear hb ho
      refine held_go (i := 15) (L := #[true, true, true, true, true, true, true, true, true, true, true, true, true, true, true, true]) (by kernel_rfl) rfl (by kernel_rfl) (by kernel_rfl) ?_
      intro K' hK
      go_simp
      refine hK _ _ ⟨keep_set SK.out _ _, ?_⟩
      clear hK
      refine wpAnyH_done (by kernel_rfl) ?_ _
      have CC := hidE (clk_set AC.out ow9 hbx hby ((see_len _ _ _).trans hlG))
      have CD := hidE (clk_other OC.out hcd (.slice (some ⟨g9, 0, none⟩) P cap9))
      have HB := hidE (HC.out.setCell (p := ⟨bc, 0, none⟩) hbw (.slice (some ⟨g9, 0, none⟩) P cap9))
      clear i0 ifz ilt hS0 HD A0 O0 HDD SK HC OC AC hgl hgg hbx hby ow9 hx1 hx2
      generalize wc.setCell ⟨bc, 0, none⟩ (.slice (some ⟨g9, 0, none⟩) P cap9) = w9 at *
      have F1 := hidE (((HB.out.cell (p := ⟨g, off + d * 2, none⟩) q3).trans ((HB9.out.cell (p := ⟨g, off + d * 2, none⟩) q3).symm)).trans F1.out)
      have F2 := hidE (((HB.out.cell (p := ⟨g, off + d * 2 + 1, none⟩) q3).trans ((HB9.out.cell (p := ⟨g, off + d * 2 + 1, none⟩) q3).symm)).trans F2.out)
      clear e1 e2
      clear hlG
      have hlG : (seeL G pv v2).length = P := CC.out.len
      obtain ⟨i0, ifz, ilt⟩ := CC.out.va
      have hgr : g < w9.heap.size := Nat.lt_of_lt_of_le q3 HB.out.size
      have AL := hidE (all_any (seeL G pv v2) _ delay w9 (by omega) (by omega) (clk_row CC.out))
      rw [partV_is] at AL
      have BD2 := hidE (see_le (p := pv) (t := v2) BD.out t2)
      have PT : Hid ((tupV (minOf (seeL G pv v2)) delay).2 = true → ∀ q, q < P → (tupV ((seeL G pv v2).getD q 0) delay).2 = true ∧ (tupV (minOf (seeL G pv v2)) delay).1 ≤ (tupV ((seeL G pv v2).getD q 0) delay).1) := fun hk q hq =>
        tup_grows (min_le _ q (by omega)) (BD2.out q (by omega)) c2 c3 hk
      generalize tupV (minOf (seeL G pv v2)) delay = TY at *
      obtain ⟨iw, ib⟩ := TY
      simp only at AL GR PT
      have F1 := hidE F1.out
      go_wp2_with fail
      refine AL.out.mono ?_
      rintro e wA ⟨rfl, hb⟩
      have F1 := hidE ((hb.cell (p := ⟨g, _, none⟩) hgr).trans F1.out)
      have F2 := hidE ((hb.cell (p := ⟨g, _, none⟩) hgr).trans F2.out)
      have CC := hidE (clk_below CC.out hb)
      have CD := hidE (clk_below CD.out hb)
      have HB := nxt HB hb
      clear hb i0 ifz ilt AL hgr hlG
      have hS0 : SKeep wA bd { wA with drawn := wA.drawn + 1 } := fun _ _ _ _ => rfl
      have hd0 : Below wA.heap.size wA { wA with drawn := wA.drawn + 1 } := (Below.refl _ _).drew
      have HD := nxt HB hd0
      have A0 := hidE (clk_below CD.out hd0)
      have O0 := hidE (clk_below CC.out hd0)
      obtain ⟨i0, ifz, ilt⟩ := A0.out.va
      have hgl : g < wA.heap.size := Nat.lt_of_lt_of_le q3 HB.out.size
      have hgg : g ≠ bd := by omega
      have HDD := hidE hd0
      clear hd0
      go_wp2_with fail
      refine wp_region_held (S := SKeep wA bd) (by kernel_rfl) ?_
      generalize hwd : ({ wA with drawn := wA.drawn + 1 } : World) = wdB at *
      clear hwd
      refine held_take (i := 1) (v := .slice (some ⟨g, off, none⟩) l.length cap) (L := #[false, true, false, false, false, false, false, false, false, false, false, false, false, false, false, false]) rfl (by kernel_rfl) (by kernel_rfl) (by kernel_rfl) (fun c a w h => h) (Or.inl ⟨by kernel_rfl, fun wq h => by go_simp⟩) hS0 (by kernel_rfl) ?_
      refine held_take (i := 2) (v := .int .i64 (d : Int)) (L := #[false, true, true, false, false, false, false, false, false, false, false, false, false, false, false, false]) rfl (by kernel_rfl) (by kernel_rfl) (by kernel_rfl) (fun c a w h => h) (Or.inl ⟨by kernel_rfl, fun wq h => by go_simp⟩) hS0 (by kernel_rfl) ?_
      refine held_take (i := 3) (v := .pointer (some ⟨g, off + d * 2, none⟩)) (L := #[false, true, true, true, false, false, false, false, false, false, false, false, false, false, false, false]) rfl (by kernel_rfl) (by kernel_rfl) (by kernel_rfl) (fun c a w h => h) (Or.inl ⟨by kernel_rfl, fun wq h => by go_simp⟩) hS0 (by kernel_rfl) ?_
      refine held_take (i := 4) (v := .pointer (some ⟨g, off + d * 2, none⟩)) (L := #[false, true, true, true, true, false, false, false, false, false, false, false, false, false, false, false]) rfl (by kernel_rfl) (by kernel_rfl) (by kernel_rfl) (fun c a w h => h) (Or.inl ⟨by kernel_rfl, fun wq h => by go_simp⟩) hS0 (by kernel_rfl) ?_
      refine held_take (i := 5) (v := .int .i64 r1) (L := #[false, true, true, true, true, true, false, false, false, false, false, false, false, false, false, false]) rfl (by kernel_rfl) (by kernel_rfl) (by kernel_rfl) (fun c a w h => h) (Or.inl ⟨by kernel_rfl, fun wq h => by have q := h g (off + d * 2) hgl hgg; rw [F1.out] at q; go_simp⟩) hS0 (by kernel_rfl) ?_
      refine held_take (i := 6) (v := .int .i64 (bits .and .i64 r1 1023)) (L := #[false, true, true, true, true, true, true, false, false, false, false, false, false, false, false, false]) rfl (by kernel_rfl) (by kernel_rfl) (by kernel_rfl) (fun c a w h => h) (Or.inl ⟨by kernel_rfl, fun wq h => by go_simp⟩) hS0 (by kernel_rfl) ?_
      refine held_take (i := 7) (v := .int .i64 (P : Int)) (L := #[false, true, true, true, true, true, true, true, false, false, false, false, false, false, false, false]) rfl (by kernel_rfl) (by kernel_rfl) (by kernel_rfl) (fun c a w h => h) (Or.inl ⟨by kernel_rfl, fun wq h => by go_simp⟩) hS0 (by kernel_rfl) ?_
      refine held_take (i := 8) (v := .int .i64 (pr : Int)) (L := #[false, true, true, true, true, true, true, true, true, false, false, false, false, false, false, false]) rfl (by kernel_rfl) (by kernel_rfl) (by kernel_rfl) (fun c a w h => h) (Or.inl ⟨by kernel_rfl, fun wq h => by have q9 := PR2.out; go_simp; omega⟩) hS0 (by kernel_rfl) ?_
      refine held_take (i := 9) (v := .slice (some ⟨g, off, none⟩) l.length cap) (L := #[false, true, true, true, true, true, true, true, true, true, false, false, false, false, false, false]) rfl (by kernel_rfl) (by kernel_rfl) (by kernel_rfl) (fun c a w h => h) (Or.inl ⟨by kernel_rfl, fun wq h => by go_simp⟩) hS0 (by kernel_rfl) ?_
      refine held_take (i := 10) (v := .int .i64 (d : Int)) (L := #[false, true, true, true, true, true, true, true, true, true, true, false, false, false, false, false]) rfl (by kernel_rfl) (by kernel_rfl) (by kernel_rfl) (fun c a w h => h) (Or.inl ⟨by kernel_rfl, fun wq h => by go_simp⟩) hS0 (by kernel_rfl) ?_
      refine held_take (i := 11) (v := .pointer (some ⟨g, off + d * 2, none⟩)) (L := #[false, true, true, true, true, true, true, true, true, true, true, true, false, false, false, false]) rfl (by kernel_rfl) (by kernel_rfl) (by kernel_rfl) (fun c a w h => h) (Or.inl ⟨by kernel_rfl, fun wq h => by go_simp⟩) hS0 (by kernel_rfl) ?_
      refine held_take (i := 12) (v := .pointer (some ⟨g, off + d * 2 + 1, none⟩)) (L := #[false, true, true, true, true, true, true, true, true, true, true, true, true, false, false, false]) rfl (by kernel_rfl) (by kernel_rfl) (by kernel_rfl) (fun c a w h => h) (Or.inl ⟨by kernel_rfl, fun wq h => by go_simp⟩) hS0 (by kernel_rfl) ?_
      refine held_take (i := 13) (v := .int .i64 r2) (L := #[false, true, true, true, true, true, true, true, true, true, true, true, true, true, false, false]) rfl (by kernel_rfl) (by kernel_rfl) (by kernel_rfl) (fun c a w h => h) (Or.inl ⟨by kernel_rfl, fun wq h => by have q := h g (off + d * 2 + 1) hgl hgg; rw [F2.out] at q; go_simp⟩) hS0 (by kernel_rfl) ?_
      refine held_go (i := 0) (L := #[true, true, true, true, true, true, true, true, true, true, true, true, true, true, false, false]) (by kernel_rfl) rfl (by kernel_rfl) (by kernel_rfl) ?_
      intro K' hK
      go_simp
      refine hK _ _ ⟨hS0, ?_⟩
      clear hK
      refine held_go (i := 14) (L := #[true, true, true, true, true, true, true, true, true, true, true, true, true, true, true, false]) (by kernel_rfl) rfl (by kernel_rfl) (by kernel_rfl) ?_
      intro K' hK
      go_simp
      have hlG : D.length = P := CD.out.len
      refine (see_any D _ pr r2 _ (by omega) (by omega) (clk_row A0.out)).mono ?_
      rintro e wcB ⟨u9, rfl, ho, hb⟩
      rw [see_len, hlG] at ho
      obtain ⟨gB, capB, rfl, hx1, hx2⟩ := owns_head ho p1
      have SK := hidE (keep_below bd (HDD.out.trans (hb.mono HDD.out.size)))
      refine hK _ _ ⟨SK.out, ?_⟩
      clear hK i0 ifz ilt
      have HC := nxt HD hb
      have OC := hidE (clk_below O0.out hb)
      have AC := hidE (clk_below A0.out hb)
      have hbx : bd ≠ gB := by have := A0.out.va.lt; omega
      have hby : bc ≠ gB := by have := O0.out.va.lt; omega
      have ow9 := owns_base ho (by have := HD.out.size; omega : w.heap.size ≤ _)
      obtain ⟨i0, ifz, ilt⟩ := AC.out.va
      clear hb ho
      refine held_go (i := 15) (L := #[true, true, true, true, true, true, true, true, true, true, true, true, true, true, true, true]) (by kernel_rfl) rfl (by kernel_rfl) (by kernel_rfl) ?_
      intro K' hK
      go_simp
      refine hK _ _ ⟨keep_set SK.out _ _, ?_⟩
      clear hK
      refine wpAnyH_done (by kernel_rfl) ?_ _
      have CD := hidE (clk_set AC.out ow9 hbx hby ((see_len _ _ _).trans hlG))
      have CC := hidE (clk_other OC.out hcd.symm (.slice (some ⟨gB, 0, none⟩) P capB))
      have HB := hidE (HC.out.setCell (p := ⟨bd, 0, none⟩) hbd (.slice (some ⟨gB, 0, none⟩) P capB))
      clear i0 ifz ilt hS0 HD A0 O0 HDD SK HC OC AC hgl hgg hbx hby ow9 hx1 hx2
      generalize wcB.setCell ⟨bd, 0, none⟩ (.slice (some ⟨gB, 0, none⟩) P capB) = wB at *
      clear hlG
      have hlG : (seeL G pv v2).length = P := CC.out.len
      have GF := GR.out
      have CS : (kb = false ∧ ib = false) ∨ (ib = true ∧ (kb = false ∨ (kb = true ∧ decide (iw < kw) = false))) := by
        cases kb with
        | false => cases ib with
          | false => exact .inl ⟨rfl, rfl⟩
          | true => exact .inr ⟨rfl, .inl rfl⟩
        | true =>
          have h := GF rfl
          exact .inr ⟨h.1, .inr ⟨rfl, by simp; omega⟩⟩
      clear GF GR HB9 F1 F2
      rw [← T1.out] at CC BD2 PT hlG
      rw [← T2.out] at CD
      clear T1 T2 BD
      obtain ⟨G2, hG2⟩ : ∃ G2, seenL P ((plc P l).take (n + 1)) = G2 := ⟨_, rfl⟩
      obtain ⟨D2, hD2⟩ : ∃ D2, seenL P ((plc P l).reverse.take (n + 1)) = D2 := ⟨_, rfl⟩
      rw [hG2] at CC BD2 PT hlG
      rw [hD2] at CD
      have HG2 := hidE hG2
      have HD2 := hidE hD2
      clear hG2 hD2
      rcases CS with ⟨rfl, rfl⟩ | ⟨rfl, CS⟩
      · go_wp2_with fail
        go_loopw [20] (fun p wr => p = .int .i64 0 ∧ wr = wB) (fun _ _ => 0)
        case atStart => exact ⟨rfl, rfl⟩
        case round =>
          obtain ⟨rfl, rfl⟩ := hrel
          go_wp2_with fail
          go_roundw
          case rel => exact ⟨n + 1, _, _, _, _, by omega, by go_num, HB, by rw [HG2.out]; exact CC, by rw [HD2.out]; exact CD, by rw [HG2.out]; exact BD2⟩
          case measure => simp [intOf]; omega
      · have PTT := hidE (PT.out rfl)
        clear PT
        rcases CS with rfl | ⟨rfl, dk⟩
        all_goals
          go_wp2_with fail
          go_loopw [20] (fun p wr => ∃ m : Nat, m ≤ P ∧ p = .int .i64 m ∧ Hid (Below w.heap.size w wr) ∧ Hid (Clk w.heap.size wr bc bd P g9 cap9 G2) ∧ Hid (Clk w.heap.size wr bd bc P gB capB D2)) (fun p _ => P - (intOf p).toNat)
          case atStart => exact ⟨0, Nat.zero_le _, rfl, HB, CC, CD⟩
          case round =>
            clear HB CC CD
            obtain ⟨m, hm, rfl, HB, CC, CD⟩ := hrel
            by_cases hmp : m < P
            · obtain ⟨pa1, pa2⟩ := PTT.out m hmp
              have PA := hidE (part_any G2 _ m delay wr (by omega) (by omega) (clk_row CC.out))
              rw [partV_is] at PA
              generalize tupV (G2.getD m 0) delay = TZ at *
              obtain ⟨zw, zb⟩ := TZ
              simp only at PA pa1 pa2
              subst pa1
              have dz : decide (zw < iw) = false := by simp; omega
              obtain ⟨i0, ifz, ilt⟩ := CC.out.va
              go_wp2_with fail
              refine PA.out.mono ?_
              rintro e wz ⟨rfl, hb⟩
              have CC := hidE (clk_below CC.out hb)
              have CD := hidE (clk_below CD.out hb)
              have HB := nxt HB hb
              clear hb i0 ifz ilt PA
              go_wp2_with fail
              go_roundw
              case rel => exact ⟨m + 1, by omega, by go_num, HB, CC, CD⟩
              case measure => simp [intOf]; omega
            · have hmP : m = P := by omega
              subst hmP
              go_wp2_with fail
              go_roundw
              case rel => exact ⟨n + 1, _, _, _, _, by omega, by go_num, HB, by rw [HG2.out]; exact CC, by rw [HD2.out]; exact CD, by rw [HG2.out]; exact BD2⟩
              case measure => simp [intOf]; omega
end Go.Proofs.Ytepfpmagppckeab

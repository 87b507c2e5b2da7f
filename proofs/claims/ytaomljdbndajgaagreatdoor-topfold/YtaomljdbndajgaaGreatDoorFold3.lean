/- The contract of fold.foldTwo, over this seat's translation. Conditions: as named. -/
import Derived.Test.YtaomljdbndajgaaGreatDoorFold2
namespace Go.Proofs.YtaomljdbndajgaaGreatDoor
open Go.ChangeShapes Go.WideShapes Go.ChangeAt Go.RowKit
set_option linter.unusedVariables false
set_option linter.unusedSimpArgs false

theorem const_cells {w : World} {k v : Int} {g off cap : Nat} (h : RowT w (.slice (some ⟨g, off, none⟩) 1 cap) (.cst k v)) :
    ∀ w', Below w.heap.size w w' → w'.cell? ⟨g, off + 4, none⟩ = some (.int .i64 k) ∧ w'.cell? ⟨g, off + 5, none⟩ = some (.int .i64 v) := by
  obtain ⟨g', off', e, hn, -, -, q3⟩ := rowN_node h 0 (by simp [flat])
  simp only [Option.some.injEq, Addr.mk.injEq, and_true] at e
  obtain ⟨rfl, rfl⟩ := e
  intro w' hb
  refine ⟨(hb.cell (p := ⟨g, off + 4, none⟩) q3).trans ?_, (hb.cell (p := ⟨g, off + 5, none⟩) q3).trans ?_⟩
  · have := hn.2.2.2.2.1
    simpa [flat] using this
  · have := hn.2.2.2.2.2
    simpa [flat] using this
theorem const_head {w : World} {k v : Int} {ao : Option Addr} {cap : Nat} (h : RowT w (.slice ao 1 cap) (.cst k v)) : ∃ g off, ao = some ⟨g, off, none⟩ ∧ 1 ≤ cap ∧ cap ≤ maxLen := by
  obtain ⟨g', off', e, hn, q1, q2, q3⟩ := rowN_node h 0 (by simp [flat])
  exact ⟨g', off', e, q1, q2⟩

set_option maxRecDepth 100000 in
set_option maxHeartbeats 4000000 in
theorem foldTwo_any (op : Int) (x y : Ex) (u v : Value) (w : World) (ho : ar op = 2) (hwx : Wf x) (hwy : Wf y) (hlx : (flat x).length ≤ 50) (hly : (flat y).length ≤ 50) (hrx : RowT w u x) (hry : RowT w v y) :
    Calls Tryz.prog 38 #[.int .i64 op, u, v] w fun e w' => ∃ u', e = .returned u' ∧ RowT w' u' (fold2 op x y) ∧ Below w.heap.size w w' ∧ (u' = u ∨ u' = v ∨ FrV w.heap.size u') := by
  have JO := hidE (join_two op (flat x) (flat y) u v w (by omega) (by omega) hrx hry (flat_mvb hwx (by omega)) (flat_mvb hwy (by omega)) ho)
  have wf2 : Wf (.two op x y) := ⟨ho, hwx, hwy⟩
  have hwl : (flat (.two op x y)).length ≤ 101 := by simp [flat, joinL]; omega
  have hop := ar2_cases ho
  have OK := hidE (fun w => ownKind_any op w (by omega))
  have EV := hidE (fun u1 w1 (h : RowT w1 u1 (.two op x y)) => eval_any (flat (.two op x y)) u1 0 0 0 0 0 0 0 w1 (by omega) h (flat_ok wf2) evZ_ok)
  have ICX := hidE (fun w1 (h : RowT w1 u x) => isConst_any x u w1 (by omega) h)
  have ICY := hidE (fun w1 (h : RowT w1 v y) => isConst_any y v w1 (by omega) h)
  have OX := hidE (fun u1 w1 (h : RowT w1 u1 x) => isOf_any x (ownK op) u1 w1 (by omega) hwx h)
  have OY := hidE (fun u1 w1 (h : RowT w1 u1 y) => isOf_any y (ownK op) u1 w1 (by omega) hwy h)
  have SX := hidE (fun w => settles_any op (cval x).1 (cval x).2 w)
  have SY := hidE (fun w => settles_any op (cval y).1 (cval y).2 w)
  have DX := hidE (fun w => settled_any op (cval x).1 (cval x).2 w)
  have DY := hidE (fun w => settled_any op (cval y).1 (cval y).2 w)
  have IX := hidE (fun w => idleAhead_any op (cval x).1 (cval x).2 w)
  have IY := hidE (fun w => idleBehind_any op (cval y).1 (cval y).2 w)
  have hev : isC x = true → isC y = true → evL opV evZ (flat (.two op x y)) = opV op (cval x) (cval y) := fun h1 h2 => by rw [ev_flat opV evZ _ wf2]; show opV op (evT opV evZ x) (evT opV evZ y) = _; rw [cst_ev opV evZ h1, cst_ev opV evZ h2]
  have HEV := hidE hev
  have RX := hidE hrx
  have RY := hidE hry
  clear hev wf2 hwx hwy
  unfold fold2
  rw [show evE 0 0 0 0 0 0 0 = evZ from rfl] at EV
  unfold aggE aggV at EV
  obtain ⟨aox, capx, hux⟩ := rowG_shape hrx
  obtain ⟨aoy, capy, huy⟩ := rowG_shape hry
  clear hrx hry
  generalize hsx : setl op ((cval x).1, (cval x).2) = sx at *
  generalize hsy : setl op ((cval y).1, (cval y).2) = sy at *
  generalize hia : idlA op ((cval x).1, (cval x).2) = ia at *
  generalize hib : idlB op ((cval y).1, (cval y).2) = ib at *
  generalize hox : isO x (ownK op) = ox at *
  generalize hoy : isO y (ownK op) = oy at *
  clear hsx hsy hia hib hox hoy
  by_cases hcx : isC x = true
  · by_cases hcy : isC y = true
    · rw [hcx] at ICX
      rw [hcy] at ICY
      rw [if_pos (by rw [hcx, hcy]; rfl)]
      rw [HEV.out hcx hcy] at EV
      have CK := hidE (fun w => constant_any (opV op (cval x) (cval y)) w)
      subst hux huy
      clear HEV hcx hcy OX OY SX SY DX DY IX IY
      go_enter Tryz.func38, Tryz.ntmps38
      go_wp2_with fail
      refine JO.out.mono ?_
      rintro e w1 ⟨u1, rfl, ho1, hb⟩
      have F1 := hidE (frV_of_owns ho1)
      have R1 := hidE (rowG_of_owns ho1)
      have RX := hidE (rowG_below RX.out hb)
      have RY := hidE (rowG_below RY.out hb)
      have HB := hidE hb
      clear ho1 hb
      obtain ⟨ao1, cap1, rfl⟩ := rowG_shape R1.out
      go_wp2_with fail
      refine (ICX.out _ RX.out).mono ?_
      rintro e w1s ⟨rfl, rfl⟩
      go_wp2_with fail
      refine (ICY.out _ RY.out).mono ?_
      rintro e w2s ⟨rfl, rfl⟩
      go_wp2_with fail
      refine (EV.out _ _ R1.out).mono ?_
      rintro e wn ⟨rfl, hb⟩
      have RX := hidE (rowG_below RX.out hb)
      have RY := hidE (rowG_below RY.out hb)
      have R1 := hidE (rowG_below R1.out hb)
      have HB := nxt HB hb
      clear hb
      go_wp2_with fail
      refine (CK.out _).mono ?_
      rintro e wk ⟨u4, rfl, hr4, hb, f4⟩
      have F4 := hidE (frV_mono f4 HB.out.size)
      have HB := nxt HB hb
      clear hb
      obtain ⟨ao4, cap4, rfl⟩ := rowG_shape hr4
      go_wp2_with fail
      go_ret
      exact ⟨_, rfl, hr4, HB.out, .inr (.inr F4.out)⟩
    · have hcy' : isC y = false := by simpa using hcy
      rw [hcx] at ICX
      rw [hcy'] at ICY
      rw [hcx, hcy']
      obtain ⟨k, n, rfl⟩ : ∃ k n, x = .cst k n := by
        cases x with
        | cst k v => exact ⟨k, v, rfl⟩
        | fld n => cases hcx
        | one o a => cases hcx
        | two o a b => cases hcx
      have e1 : (flat (Ex.cst k n)).length = 1 := rfl
      rw [e1] at hux
      subst hux huy
      obtain ⟨gx, ox', rfl, qx1, qx2⟩ := const_head RX.out
      have CX := hidE (const_cells RX.out)
      unfold maxLen at qx2
      rw [show cval (.cst k n) = (k, n) from rfl] at SX DX IX ⊢
      simp only at SX DX IX
      simp only [Bool.and_false, Bool.false_and, Bool.true_and, Bool.false_eq_true, if_false]
      clear HEV hcx hcy hcy' SY DY IY OX EV e1 hlx hwl
      cases sx with
      | true =>
        simp only [if_true]
        have CK := hidE (fun w => constant_any (setd op (k, n)) w)
        go_enter Tryz.func38, Tryz.ntmps38
        go_wp2_with fail
        refine JO.out.mono ?_
        rintro e w1 ⟨u1, rfl, ho1, hb⟩
        have F1 := hidE (frV_of_owns ho1)
        have R1 := hidE (rowG_of_owns ho1)
        have RX := hidE (rowG_below RX.out hb)
        have RY := hidE (rowG_below RY.out hb)
        have HB := hidE hb
        clear ho1 hb
        obtain ⟨ao1, cap1, rfl⟩ := rowG_shape R1.out
        go_wp2_with fail
        refine (ICX.out _ RX.out).mono ?_
        rintro e w1s ⟨rfl, rfl⟩
        go_wp2_with fail
        refine (ICY.out _ RY.out).mono ?_
        rintro e w2s ⟨rfl, rfl⟩
        go_wp2_with fail
        refine (ICX.out _ RX.out).mono ?_
        rintro e w3s ⟨rfl, rfl⟩
        obtain ⟨x4, x5⟩ := CX.out _ HB.out
        go_wp2_with fail
        refine (SX.out _).mono ?_
        rintro e wn ⟨rfl, hb⟩
        have RX := hidE (rowG_below RX.out hb)
        have RY := hidE (rowG_below RY.out hb)
        have R1 := hidE (rowG_below R1.out hb)
        have HB := nxt HB hb
        clear hb
        obtain ⟨x4, x5⟩ := CX.out _ HB.out
        go_wp2_with fail
        refine (DX.out _).mono ?_
        rintro e wn ⟨rfl, hb⟩
        have RX := hidE (rowG_below RX.out hb)
        have RY := hidE (rowG_below RY.out hb)
        have R1 := hidE (rowG_below R1.out hb)
        have HB := nxt HB hb
        clear hb
        go_wp2_with fail
        refine (CK.out _).mono ?_
        rintro e wk ⟨u4, rfl, hr4, hb, f4⟩
        have F4 := hidE (frV_mono f4 HB.out.size)
        have HB := nxt HB hb
        clear hb
        obtain ⟨ao4, cap4, rfl⟩ := rowG_shape hr4
        go_wp2_with fail
        go_ret
        exact ⟨_, rfl, hr4, HB.out, .inr (.inr F4.out)⟩
      | false =>
        simp only [Bool.false_eq_true, if_false]
        cases ia with
        | true =>
          simp only [Bool.true_and]
          cases oy with
          | true =>
            simp only [if_true]
            go_enter Tryz.func38, Tryz.ntmps38
            go_wp2_with fail
            refine JO.out.mono ?_
            rintro e w1 ⟨u1, rfl, ho1, hb⟩
            have F1 := hidE (frV_of_owns ho1)
            have R1 := hidE (rowG_of_owns ho1)
            have RX := hidE (rowG_below RX.out hb)
            have RY := hidE (rowG_below RY.out hb)
            have HB := hidE hb
            clear ho1 hb
            obtain ⟨ao1, cap1, rfl⟩ := rowG_shape R1.out
            go_wp2_with fail
            refine (ICX.out _ RX.out).mono ?_
            rintro e w1s ⟨rfl, rfl⟩
            go_wp2_with fail
            refine (ICY.out _ RY.out).mono ?_
            rintro e w2s ⟨rfl, rfl⟩
            go_wp2_with fail
            refine (ICX.out _ RX.out).mono ?_
            rintro e w3s ⟨rfl, rfl⟩
            obtain ⟨x4, x5⟩ := CX.out _ HB.out
            go_wp2_with fail
            refine (SX.out _).mono ?_
            rintro e wn ⟨rfl, hb⟩
            have RX := hidE (rowG_below RX.out hb)
            have RY := hidE (rowG_below RY.out hb)
            have R1 := hidE (rowG_below R1.out hb)
            have HB := nxt HB hb
            clear hb
            go_wp2_with fail
            refine (ICY.out _ RY.out).mono ?_
            rintro e w5s ⟨rfl, rfl⟩
            go_wp2_with fail
            refine (ICX.out _ RX.out).mono ?_
            rintro e w6s ⟨rfl, rfl⟩
            clear x4 x5
            obtain ⟨x4, x5⟩ := CX.out _ HB.out
            go_wp2_with fail
            refine (IX.out _).mono ?_
            rintro e wn ⟨rfl, hb⟩
            have RX := hidE (rowG_below RX.out hb)
            have RY := hidE (rowG_below RY.out hb)
            have R1 := hidE (rowG_below R1.out hb)
            have HB := nxt HB hb
            clear hb
            go_wp2_with fail
            refine (OK.out _).mono ?_
            rintro e w8s ⟨rfl, rfl⟩
            go_wp2_with fail
            refine (OY.out _ _ RY.out).mono ?_
            rintro e wn ⟨rfl, hb⟩
            have RX := hidE (rowG_below RX.out hb)
            have RY := hidE (rowG_below RY.out hb)
            have R1 := hidE (rowG_below R1.out hb)
            have HB := nxt HB hb
            clear hb
            go_wp2_with fail
            go_ret
            exact ⟨_, rfl, RY.out, HB.out, .inr (.inl rfl)⟩
          | false =>
            simp only [Bool.false_eq_true, if_false]
            go_enter Tryz.func38, Tryz.ntmps38
            go_wp2_with fail
            refine JO.out.mono ?_
            rintro e w1 ⟨u1, rfl, ho1, hb⟩
            have F1 := hidE (frV_of_owns ho1)
            have R1 := hidE (rowG_of_owns ho1)
            have RX := hidE (rowG_below RX.out hb)
            have RY := hidE (rowG_below RY.out hb)
            have HB := hidE hb
            clear ho1 hb
            obtain ⟨ao1, cap1, rfl⟩ := rowG_shape R1.out
            go_wp2_with fail
            refine (ICX.out _ RX.out).mono ?_
            rintro e w1s ⟨rfl, rfl⟩
            go_wp2_with fail
            refine (ICY.out _ RY.out).mono ?_
            rintro e w2s ⟨rfl, rfl⟩
            go_wp2_with fail
            refine (ICX.out _ RX.out).mono ?_
            rintro e w3s ⟨rfl, rfl⟩
            obtain ⟨x4, x5⟩ := CX.out _ HB.out
            go_wp2_with fail
            refine (SX.out _).mono ?_
            rintro e wn ⟨rfl, hb⟩
            have RX := hidE (rowG_below RX.out hb)
            have RY := hidE (rowG_below RY.out hb)
            have R1 := hidE (rowG_below R1.out hb)
            have HB := nxt HB hb
            clear hb
            go_wp2_with fail
            refine (ICY.out _ RY.out).mono ?_
            rintro e w5s ⟨rfl, rfl⟩
            go_wp2_with fail
            refine (ICX.out _ RX.out).mono ?_
            rintro e w6s ⟨rfl, rfl⟩
            clear x4 x5
            obtain ⟨x4, x5⟩ := CX.out _ HB.out
            go_wp2_with fail
            refine (IX.out _).mono ?_
            rintro e wn ⟨rfl, hb⟩
            have RX := hidE (rowG_below RX.out hb)
            have RY := hidE (rowG_below RY.out hb)
            have R1 := hidE (rowG_below R1.out hb)
            have HB := nxt HB hb
            clear hb
            go_wp2_with fail
            refine (OK.out _).mono ?_
            rintro e w8s ⟨rfl, rfl⟩
            go_wp2_with fail
            refine (OY.out _ _ RY.out).mono ?_
            rintro e wn ⟨rfl, hb⟩
            have RX := hidE (rowG_below RX.out hb)
            have RY := hidE (rowG_below RY.out hb)
            have R1 := hidE (rowG_below R1.out hb)
            have HB := nxt HB hb
            clear hb
            go_wp2_with fail
            refine (ICY.out _ RY.out).mono ?_
            rintro e w10s ⟨rfl, rfl⟩
            go_wp2_with fail
            go_ret
            exact ⟨_, rfl, R1.out, HB.out, .inr (.inr F1.out)⟩
        | false =>
          simp only [Bool.false_and, Bool.false_eq_true, if_false]
          go_enter Tryz.func38, Tryz.ntmps38
          go_wp2_with fail
          refine JO.out.mono ?_
          rintro e w1 ⟨u1, rfl, ho1, hb⟩
          have F1 := hidE (frV_of_owns ho1)
          have R1 := hidE (rowG_of_owns ho1)
          have RX := hidE (rowG_below RX.out hb)
          have RY := hidE (rowG_below RY.out hb)
          have HB := hidE hb
          clear ho1 hb
          obtain ⟨ao1, cap1, rfl⟩ := rowG_shape R1.out
          go_wp2_with fail
          refine (ICX.out _ RX.out).mono ?_
          rintro e w1s ⟨rfl, rfl⟩
          go_wp2_with fail
          refine (ICY.out _ RY.out).mono ?_
          rintro e w2s ⟨rfl, rfl⟩
          go_wp2_with fail
          refine (ICX.out _ RX.out).mono ?_
          rintro e w3s ⟨rfl, rfl⟩
          obtain ⟨x4, x5⟩ := CX.out _ HB.out
          go_wp2_with fail
          refine (SX.out _).mono ?_
          rintro e wn ⟨rfl, hb⟩
          have RX := hidE (rowG_below RX.out hb)
          have RY := hidE (rowG_below RY.out hb)
          have R1 := hidE (rowG_below R1.out hb)
          have HB := nxt HB hb
          clear hb
          go_wp2_with fail
          refine (ICY.out _ RY.out).mono ?_
          rintro e w5s ⟨rfl, rfl⟩
          go_wp2_with fail
          refine (ICX.out _ RX.out).mono ?_
          rintro e w6s ⟨rfl, rfl⟩
          clear x4 x5
          obtain ⟨x4, x5⟩ := CX.out _ HB.out
          go_wp2_with fail
          refine (IX.out _).mono ?_
          rintro e wn ⟨rfl, hb⟩
          have RX := hidE (rowG_below RX.out hb)
          have RY := hidE (rowG_below RY.out hb)
          have R1 := hidE (rowG_below R1.out hb)
          have HB := nxt HB hb
          clear hb
          go_wp2_with fail
          refine (ICY.out _ RY.out).mono ?_
          rintro e w8s ⟨rfl, rfl⟩
          go_wp2_with fail
          go_ret
          exact ⟨_, rfl, R1.out, HB.out, .inr (.inr F1.out)⟩
  · have hcx' : isC x = false := by simpa using hcx
    rw [hcx'] at ICX
    by_cases hcy : isC y = true
    · rw [hcy] at ICY
      rw [hcx', hcy]
      obtain ⟨k, n, rfl⟩ : ∃ k n, y = .cst k n := by
        cases y with
        | cst k v => exact ⟨k, v, rfl⟩
        | fld n => cases hcy
        | one o a => cases hcy
        | two o a b => cases hcy
      have e1 : (flat (Ex.cst k n)).length = 1 := rfl
      rw [e1] at huy
      subst hux huy
      obtain ⟨gy, oy', rfl, qy1, qy2⟩ := const_head RY.out
      have CY := hidE (const_cells RY.out)
      unfold maxLen at qy2
      rw [show cval (.cst k n) = (k, n) from rfl] at SY DY IY ⊢
      simp only at SY DY IY
      simp only [Bool.and_false, Bool.false_and, Bool.true_and, Bool.false_eq_true, if_false]
      clear HEV hcx hcy hcx' SX DX IX OY EV e1 hly hwl
      cases sy with
      | true =>
        simp only [if_true]
        have CK := hidE (fun w => constant_any (setd op (k, n)) w)
        go_enter Tryz.func38, Tryz.ntmps38
        go_wp2_with fail
        refine JO.out.mono ?_
        rintro e w1 ⟨u1, rfl, ho1, hb⟩
        have F1 := hidE (frV_of_owns ho1)
        have R1 := hidE (rowG_of_owns ho1)
        have RX := hidE (rowG_below RX.out hb)
        have RY := hidE (rowG_below RY.out hb)
        have HB := hidE hb
        clear ho1 hb
        obtain ⟨ao1, cap1, rfl⟩ := rowG_shape R1.out
        go_wp2_with fail
        refine (ICX.out _ RX.out).mono ?_
        rintro e w1s ⟨rfl, rfl⟩
        go_wp2_with fail
        refine (ICX.out _ RX.out).mono ?_
        rintro e w2s ⟨rfl, rfl⟩
        go_wp2_with fail
        refine (ICY.out _ RY.out).mono ?_
        rintro e w3s ⟨rfl, rfl⟩
        obtain ⟨y4, y5⟩ := CY.out _ HB.out
        go_wp2_with fail
        refine (SY.out _).mono ?_
        rintro e wn ⟨rfl, hb⟩
        have RX := hidE (rowG_below RX.out hb)
        have RY := hidE (rowG_below RY.out hb)
        have R1 := hidE (rowG_below R1.out hb)
        have HB := nxt HB hb
        clear hb
        obtain ⟨y4, y5⟩ := CY.out _ HB.out
        go_wp2_with fail
        refine (DY.out _).mono ?_
        rintro e wn ⟨rfl, hb⟩
        have RX := hidE (rowG_below RX.out hb)
        have RY := hidE (rowG_below RY.out hb)
        have R1 := hidE (rowG_below R1.out hb)
        have HB := nxt HB hb
        clear hb
        go_wp2_with fail
        refine (CK.out _).mono ?_
        rintro e wk ⟨u4, rfl, hr4, hb, f4⟩
        have F4 := hidE (frV_mono f4 HB.out.size)
        have HB := nxt HB hb
        clear hb
        obtain ⟨ao4, cap4, rfl⟩ := rowG_shape hr4
        go_wp2_with fail
        go_ret
        exact ⟨_, rfl, hr4, HB.out, .inr (.inr F4.out)⟩
      | false =>
        simp only [Bool.false_eq_true, if_false]
        cases ib with
        | true =>
          simp only [Bool.true_and]
          cases ox with
          | true =>
            simp only [if_true]
            go_enter Tryz.func38, Tryz.ntmps38
            go_wp2_with fail
            refine JO.out.mono ?_
            rintro e w1 ⟨u1, rfl, ho1, hb⟩
            have F1 := hidE (frV_of_owns ho1)
            have R1 := hidE (rowG_of_owns ho1)
            have RX := hidE (rowG_below RX.out hb)
            have RY := hidE (rowG_below RY.out hb)
            have HB := hidE hb
            clear ho1 hb
            obtain ⟨ao1, cap1, rfl⟩ := rowG_shape R1.out
            go_wp2_with fail
            refine (ICX.out _ RX.out).mono ?_
            rintro e w1s ⟨rfl, rfl⟩
            go_wp2_with fail
            refine (ICX.out _ RX.out).mono ?_
            rintro e w2s ⟨rfl, rfl⟩
            go_wp2_with fail
            refine (ICY.out _ RY.out).mono ?_
            rintro e w3s ⟨rfl, rfl⟩
            obtain ⟨y4, y5⟩ := CY.out _ HB.out
            go_wp2_with fail
            refine (SY.out _).mono ?_
            rintro e wn ⟨rfl, hb⟩
            have RX := hidE (rowG_below RX.out hb)
            have RY := hidE (rowG_below RY.out hb)
            have R1 := hidE (rowG_below R1.out hb)
            have HB := nxt HB hb
            clear hb
            go_wp2_with fail
            refine (ICX.out _ RX.out).mono ?_
            rintro e w5s ⟨rfl, rfl⟩
            go_wp2_with fail
            refine (ICY.out _ RY.out).mono ?_
            rintro e w6s ⟨rfl, rfl⟩
            clear y4 y5
            obtain ⟨y4, y5⟩ := CY.out _ HB.out
            go_wp2_with fail
            refine (IY.out _).mono ?_
            rintro e wn ⟨rfl, hb⟩
            have RX := hidE (rowG_below RX.out hb)
            have RY := hidE (rowG_below RY.out hb)
            have R1 := hidE (rowG_below R1.out hb)
            have HB := nxt HB hb
            clear hb
            go_wp2_with fail
            refine (OK.out _).mono ?_
            rintro e w8s ⟨rfl, rfl⟩
            go_wp2_with fail
            refine (OX.out _ _ RX.out).mono ?_
            rintro e wn ⟨rfl, hb⟩
            have RX := hidE (rowG_below RX.out hb)
            have RY := hidE (rowG_below RY.out hb)
            have R1 := hidE (rowG_below R1.out hb)
            have HB := nxt HB hb
            clear hb
            go_wp2_with fail
            go_ret
            exact ⟨_, rfl, RX.out, HB.out, .inl rfl⟩
          | false =>
            simp only [Bool.false_eq_true, if_false]
            go_enter Tryz.func38, Tryz.ntmps38
            go_wp2_with fail
            refine JO.out.mono ?_
            rintro e w1 ⟨u1, rfl, ho1, hb⟩
            have F1 := hidE (frV_of_owns ho1)
            have R1 := hidE (rowG_of_owns ho1)
            have RX := hidE (rowG_below RX.out hb)
            have RY := hidE (rowG_below RY.out hb)
            have HB := hidE hb
            clear ho1 hb
            obtain ⟨ao1, cap1, rfl⟩ := rowG_shape R1.out
            go_wp2_with fail
            refine (ICX.out _ RX.out).mono ?_
            rintro e w1s ⟨rfl, rfl⟩
            go_wp2_with fail
            refine (ICX.out _ RX.out).mono ?_
            rintro e w2s ⟨rfl, rfl⟩
            go_wp2_with fail
            refine (ICY.out _ RY.out).mono ?_
            rintro e w3s ⟨rfl, rfl⟩
            obtain ⟨y4, y5⟩ := CY.out _ HB.out
            go_wp2_with fail
            refine (SY.out _).mono ?_
            rintro e wn ⟨rfl, hb⟩
            have RX := hidE (rowG_below RX.out hb)
            have RY := hidE (rowG_below RY.out hb)
            have R1 := hidE (rowG_below R1.out hb)
            have HB := nxt HB hb
            clear hb
            go_wp2_with fail
            refine (ICX.out _ RX.out).mono ?_
            rintro e w5s ⟨rfl, rfl⟩
            go_wp2_with fail
            refine (ICY.out _ RY.out).mono ?_
            rintro e w6s ⟨rfl, rfl⟩
            clear y4 y5
            obtain ⟨y4, y5⟩ := CY.out _ HB.out
            go_wp2_with fail
            refine (IY.out _).mono ?_
            rintro e wn ⟨rfl, hb⟩
            have RX := hidE (rowG_below RX.out hb)
            have RY := hidE (rowG_below RY.out hb)
            have R1 := hidE (rowG_below R1.out hb)
            have HB := nxt HB hb
            clear hb
            go_wp2_with fail
            refine (OK.out _).mono ?_
            rintro e w8s ⟨rfl, rfl⟩
            go_wp2_with fail
            refine (OX.out _ _ RX.out).mono ?_
            rintro e wn ⟨rfl, hb⟩
            have RX := hidE (rowG_below RX.out hb)
            have RY := hidE (rowG_below RY.out hb)
            have R1 := hidE (rowG_below R1.out hb)
            have HB := nxt HB hb
            clear hb
            go_wp2_with fail
            go_ret
            exact ⟨_, rfl, R1.out, HB.out, .inr (.inr F1.out)⟩
        | false =>
          simp only [Bool.false_and, Bool.false_eq_true, if_false]
          go_enter Tryz.func38, Tryz.ntmps38
          go_wp2_with fail
          refine JO.out.mono ?_
          rintro e w1 ⟨u1, rfl, ho1, hb⟩
          have F1 := hidE (frV_of_owns ho1)
          have R1 := hidE (rowG_of_owns ho1)
          have RX := hidE (rowG_below RX.out hb)
          have RY := hidE (rowG_below RY.out hb)
          have HB := hidE hb
          clear ho1 hb
          obtain ⟨ao1, cap1, rfl⟩ := rowG_shape R1.out
          go_wp2_with fail
          refine (ICX.out _ RX.out).mono ?_
          rintro e w1s ⟨rfl, rfl⟩
          go_wp2_with fail
          refine (ICX.out _ RX.out).mono ?_
          rintro e w2s ⟨rfl, rfl⟩
          go_wp2_with fail
          refine (ICY.out _ RY.out).mono ?_
          rintro e w3s ⟨rfl, rfl⟩
          obtain ⟨y4, y5⟩ := CY.out _ HB.out
          go_wp2_with fail
          refine (SY.out _).mono ?_
          rintro e wn ⟨rfl, hb⟩
          have RX := hidE (rowG_below RX.out hb)
          have RY := hidE (rowG_below RY.out hb)
          have R1 := hidE (rowG_below R1.out hb)
          have HB := nxt HB hb
          clear hb
          go_wp2_with fail
          refine (ICX.out _ RX.out).mono ?_
          rintro e w5s ⟨rfl, rfl⟩
          go_wp2_with fail
          refine (ICY.out _ RY.out).mono ?_
          rintro e w6s ⟨rfl, rfl⟩
          clear y4 y5
          obtain ⟨y4, y5⟩ := CY.out _ HB.out
          go_wp2_with fail
          refine (IY.out _).mono ?_
          rintro e wn ⟨rfl, hb⟩
          have RX := hidE (rowG_below RX.out hb)
          have RY := hidE (rowG_below RY.out hb)
          have R1 := hidE (rowG_below R1.out hb)
          have HB := nxt HB hb
          clear hb
          go_wp2_with fail
          go_ret
          exact ⟨_, rfl, R1.out, HB.out, .inr (.inr F1.out)⟩
    · have hcy' : isC y = false := by simpa using hcy
      rw [hcy'] at ICY
      rw [hcx', hcy']
      subst hux huy
      simp only [Bool.and_false, Bool.false_and, Bool.false_eq_true, if_false]
      clear HEV hcx hcy hcx' hcy' SX DX IX SY DY IY OX OY EV hwl
      go_enter Tryz.func38, Tryz.ntmps38
      go_wp2_with fail
      refine JO.out.mono ?_
      rintro e w1 ⟨u1, rfl, ho1, hb⟩
      have F1 := hidE (frV_of_owns ho1)
      have R1 := hidE (rowG_of_owns ho1)
      have RX := hidE (rowG_below RX.out hb)
      have RY := hidE (rowG_below RY.out hb)
      have HB := hidE hb
      clear ho1 hb
      obtain ⟨ao1, cap1, rfl⟩ := rowG_shape R1.out
      go_wp2_with fail
      refine (ICX.out _ RX.out).mono ?_
      rintro e w1s ⟨rfl, rfl⟩
      go_wp2_with fail
      refine (ICX.out _ RX.out).mono ?_
      rintro e w2s ⟨rfl, rfl⟩
      go_wp2_with fail
      refine (ICY.out _ RY.out).mono ?_
      rintro e w3s ⟨rfl, rfl⟩
      go_wp2_with fail
      refine (ICX.out _ RX.out).mono ?_
      rintro e w4s ⟨rfl, rfl⟩
      go_wp2_with fail
      refine (ICY.out _ RY.out).mono ?_
      rintro e w5s ⟨rfl, rfl⟩
      go_wp2_with fail
      go_ret
      exact ⟨_, rfl, R1.out, HB.out, .inr (.inr F1.out)⟩
end Go.Proofs.YtaomljdbndajgaaGreatDoor

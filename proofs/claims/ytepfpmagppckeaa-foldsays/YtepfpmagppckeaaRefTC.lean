/- The contracts of penstockref.typeAt and Type for every expression that may be, over this seat's translation. Conditions: the nodes may be. -/
import Derived.Test.YtepfpmagppckeaaRefTB1
import Derived.Test.YtepfpmagppckeaaRefTB2
namespace Go.Proofs.Ytepfpmagppckeaa
open Go.ChangeShapes Go.WideShapes Go.ChangeAt Go.RowKit
set_option linter.unusedVariables false
set_option linter.unusedSimpArgs false

theorem tyAt_step (l : List Nd) (f i : Nat) (n : Nd) (h : l[i]? = some n) (h1 : n.op ≠ 1) (h2 : n.op ≠ 2) :
    tyAt l (f + 1) i = tyR n.op (tyAt l f n.x.toNat).1 (if ar n.op = 2 then tyAt l f n.y.toNat else tyAt l f n.x.toNat).1 (tyAt l f n.x.toNat).2 (if ar n.op = 2 then tyAt l f n.y.toNat else tyAt l f n.x.toNat).2 := by
  rw [tyAt, h]
  simp only [h1, h2, if_false]
  generalize tyAt l f n.x.toNat = a
  generalize (if ar n.op = 2 then tyAt l f n.y.toNat else a) = b
  obtain ⟨a1, a2⟩ := a
  obtain ⟨b1, b2⟩ := b
  unfold tyR
  simp only
  cases a2 <;> cases b2
  · simp
  · simp
  · simp
  · simp only [Bool.true_eq_false, or_self, if_false, Bool.and_self, Bool.not_true, Bool.false_eq_true]
    by_cases h5 : n.op = 5
    · rw [if_pos h5, if_pos h5]
    · rw [if_neg h5, if_neg h5]
      have e : ((a1 ≠ 0 ∧ a1 ≠ (if n.op = 4 ∨ n.op = 9 ∨ n.op = 10 then 2 else 1)) ∨ (b1 ≠ 0 ∧ b1 ≠ (if n.op = 4 ∨ n.op = 9 ∨ n.op = 10 then 2 else 1))) = (((a1 != 0) && (a1 != wantT n.op) || (b1 != 0) && (b1 != wantT n.op)) = true) := by
        unfold wantT
        simp only [Bool.or_eq_true, Bool.and_eq_true, bne_iff_ne]
      simp only [e]
      rfl

theorem rta_all (l : List Nd) (bs : List Nat) (ao : Option Addr) (cap : Nat) (hl : l.length ≤ 1000) (hg : Good l bs) :
    ∀ (i : Nat), i < l.length → ∀ (f : Nat) (w : World), i < f → RowG w (.slice ao l.length cap) 6 l.length (rowN l) →
    Calls Try.prog 47 #[.slice ao l.length cap, .int .i64 (i : Int)] w fun e w' => e = .returned (.tuple #[.int .i64 (tyAt l f i).1, .bool (tyAt l f i).2]) ∧ Below w.heap.size w w' := by
  intro i
  induction i using Nat.strongRecOn with
  | ind i ih =>
    intro hi f w hf hr
    obtain ⟨f, rfl⟩ : ∃ g, f = g + 1 := ⟨f - 1, by omega⟩
    have hn := List.getElem?_eq_getElem hi
    obtain ⟨ok, a0, -⟩ := good_at hg hn
    obtain ⟨p1, p2⟩ := good_part hg hn
    obtain ⟨-, q1, q2, q3, q4, q5, q6⟩ := okN_parts ok
    have hst := tyAt_step l f i l[i] hn
    have hc1 : l[i].op = 1 → tyAt l (f + 1) i = (l[i].k, true) := fun h => by unfold tyAt; rw [hn]; simp only; rw [if_pos h]
    have hc2 : l[i].op = 2 → tyAt l (f + 1) i = (1, true) := fun h => by unfold tyAt; rw [hn]; simp only; rw [if_neg (by omega), if_pos h]
    generalize l[i] = n at *
    obtain ⟨op, x, y, nn, k, v⟩ := n
    simp only at *
    have unary : ∀ (o : Int), op = o → o ≠ 1 → o ≠ 2 → ar o = 1 → ∃ j : Nat, x = (j : Int) ∧ j < i ∧ y = 0 ∧ nn = 0 ∧ k = 0 ∧ v = 0 ∧ tyAt l (f + 1) i = tyR o (tyAt l f j).1 (tyAt l f j).1 (tyAt l f j).2 (tyAt l f j).2 := by
      intro o e h1 h2 ha
      subst e
      obtain ⟨x0, x1, -⟩ := p1 (by omega)
      have hh := hst h1 h2
      rw [if_neg (by omega)] at hh
      exact ⟨x.toNat, by omega, by omega, q3 (by omega), q2 h2, (q1 h1).1, (q1 h1).2, hh⟩
    have binary : ∀ (o : Int), op = o → o ≠ 1 → o ≠ 2 → ar o = 2 → ∃ j j' : Nat, x = (j : Int) ∧ j < i ∧ y = (j' : Int) ∧ j' < i ∧ nn = 0 ∧ k = 0 ∧ v = 0 ∧ tyAt l (f + 1) i = tyR o (tyAt l f j).1 (tyAt l f j').1 (tyAt l f j).2 (tyAt l f j').2 := by
      intro o e h1 h2 ha
      subst e
      obtain ⟨x0, x1, -⟩ := p1 (by omega)
      obtain ⟨y0, y1, -⟩ := p2 ha
      have hh := hst h1 h2
      rw [if_pos ha] at hh
      exact ⟨x.toNat, y.toNat, by omega, by omega, by omega, by omega, q2 h2, (q1 h1).1, (q1 h1).2, hh⟩
    rcases ar_op a0 with e | e | e | e | e | ⟨h6, h2⟩
    · rw [hc1 e]
      subst e
      obtain rfl := q2 (by decide)
      obtain rfl := q3 (by decide)
      obtain rfl := q4 (by decide)
      exact rta_1 l ao cap i k v w hl hi hr hn
    · rw [hc2 e]
      subst e
      obtain ⟨rfl, rfl⟩ := q1 (by decide)
      obtain rfl := q3 (by decide)
      obtain rfl := q4 (by decide)
      exact rta_2 l ao cap i nn w hl hi hr hn
    · obtain ⟨j, rfl, hj, rfl, rfl, rfl, rfl, hh⟩ := unary 3 e (by decide) (by decide) (by decide)
      subst e
      rw [hh]
      exact rta_3 l ao cap i j _ _ w hl hi hr hn (fun w hr => ih j hj (by omega) f w (by omega) hr)
    · obtain ⟨j, rfl, hj, rfl, rfl, rfl, rfl, hh⟩ := unary 4 e (by decide) (by decide) (by decide)
      subst e
      rw [hh]
      exact rta_4 l ao cap i j _ _ w hl hi hr hn (fun w hr => ih j hj (by omega) f w (by omega) hr)
    · obtain ⟨j, rfl, hj, rfl, rfl, rfl, rfl, hh⟩ := unary 5 e (by decide) (by decide) (by decide)
      subst e
      rw [hh]
      exact rta_5 l ao cap i j _ _ w hl hi hr hn (fun w hr => ih j hj (by omega) f w (by omega) hr)
    · obtain ⟨j, j', rfl, hj, rfl, hj', rfl, rfl, rfl, hh⟩ := binary op rfl (by omega) (by omega) h2
      rw [hh]
      have C := fun w hr => ih j hj (by omega) f w (by omega) hr
      have C' := fun w hr => ih j' hj' (by omega) f w (by omega) hr
      have h12 : op ≤ 12 := by
        by_cases h : op ≤ 12
        · exact h
        · unfold ar at h2
          rw [if_neg (by omega), if_neg (by omega), if_neg (by omega)] at h2
          omega
      clear hst hc1 hc2 unary binary hh ih p1 p2 q1 q2 q3 q4
      rcases (by omega : op = 6 ∨ op = 7 ∨ op = 8 ∨ op = 9 ∨ op = 10 ∨ op = 11 ∨ op = 12) with rfl | rfl | rfl | rfl | rfl | rfl | rfl
      · exact rta_6 l ao cap i j j' _ _ _ _ w hl hi hr hn C C'
      · exact rta_7 l ao cap i j j' _ _ _ _ w hl hi hr hn C C'
      · exact rta_8 l ao cap i j j' _ _ _ _ w hl hi hr hn C C'
      · exact rta_9 l ao cap i j j' _ _ _ _ w hl hi hr hn C C'
      · exact rta_10 l ao cap i j j' _ _ _ _ w hl hi hr hn C C'
      · exact rta_11 l ao cap i j j' _ _ _ _ w hl hi hr hn C C'
      · exact rta_12 l ao cap i j j' _ _ _ _ w hl hi hr hn C C'

set_option maxRecDepth 100000 in
theorem rtype_any (l : List Nd) (bs : List Nat) (v : Value) (w : World) (hl : l.length ≤ 1000) (h0 : 0 < l.length) (hg : Good l bs) (hb : bs.getD (l.length - 1) 0 = 0) (hr : RowG w v 6 l.length (rowN l)) :
    Calls Try.prog 23 #[v] w fun e w' => e = .returned (.tuple #[.int .i64 (tyE l).1, .int .i64 (tyE l).2]) ∧ Below w.heap.size w w' := by
  obtain ⟨ao, cap, rfl⟩ := rowG_shape hr
  have HA := hidE (rta_all l bs ao cap hl hg (l.length - 1) (by omega) l.length w (by omega) hr)
  have hi : ((l.length - 1 : Nat) : Int) = (l.length : Int) - 1 := by omega
  have hty := type_is hg h0 hb
  have hz : (tyAt l l.length (l.length - 1)).2 = false → (tyAt l l.length (l.length - 1)).1 = 0 := by
    have hk := tyAt_is hg (l.length - 1) (by omega) l.length _ (by omega) (List.getElem?_eq_getElem (by omega))
    intro h
    rw [hk] at h ⊢
    split at h
    · cases h
    · rename_i hh; rw [if_neg hh]
  rw [hi] at HA
  rw [hty]
  clear hi hr hty
  generalize tyAt l l.length (l.length - 1) = X at *
  obtain ⟨x1, x2⟩ := X
  simp only at HA hz ⊢
  cases x2
  · obtain rfl := hz rfl
    clear hz
    go_enter Try.func23, Try.ntmps23
    go_wp2_with fail
    refine HA.out.mono ?_
    rintro e w1 ⟨rfl, hb⟩
    have HB := hidE hb
    clear hb
    go_wp2_with fail
    go_ret2
    exact ⟨rfl, HB.out⟩
  · clear hz
    go_enter Try.func23, Try.ntmps23
    go_wp2_with fail
    refine HA.out.mono ?_
    rintro e w1 ⟨rfl, hb⟩
    have HB := hidE hb
    clear hb
    go_wp2_with fail
    go_ret2
    exact ⟨rfl, HB.out⟩
end Go.Proofs.Ytepfpmagppckeaa

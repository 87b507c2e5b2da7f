/- The contract of Cut of package expr, over this seat's translation. Conditions: the nodes may be. -/
import Derived.Test.YtepfpmagppckeaaExpr9
namespace Go.Proofs.Ytepfpmagppckeaa
open Go.ChangeShapes Go.WideShapes Go.ChangeAt Go.RowKit
set_option linter.unusedVariables false
set_option linter.unusedSimpArgs false

theorem rowN_cons (a : Nd) (l : List Nd) : rowN (a :: l) = cellsN a ++ rowN l := rfl
theorem rowN_drop : ∀ (l : List Nd) (b : Nat), rowN (l.drop b) = (rowN l).drop (b * 6)
  | l, 0 => by simp
  | [], b + 1 => by simp [rowN]
  | a :: l, b + 1 => by
    have h6 : (cellsN a).drop ((b + 1) * 6) = [] := List.drop_eq_nil_of_le (by show 6 ≤ _; omega)
    rw [List.drop_succ_cons, rowN_drop l b, rowN_cons, List.drop_append, show (cellsN a).length = 6 from rfl, show (b + 1) * 6 - 6 = b * 6 from by omega, h6, List.nil_append]
theorem rowN_take : ∀ (l : List Nd) (b : Nat), rowN (l.take b) = (rowN l).take (b * 6)
  | l, 0 => by simp [rowN]
  | [], b + 1 => by simp [rowN]
  | a :: l, b + 1 => by
    have h6 : (cellsN a).take ((b + 1) * 6) = cellsN a := List.take_of_length_le (by show 6 ≤ _; omega)
    rw [List.take_succ_cons, rowN_cons, rowN_take l b, rowN_cons, List.take_append, show (cellsN a).length = 6 from rfl, show (b + 1) * 6 - 6 = b * 6 from by omega, h6]

theorem rowN_sub {w : World} {l : List Nd} {g off cap : Nat} (h : RowG w (.slice (some ⟨g, off, none⟩) l.length cap) 6 l.length (rowN l)) (b e : Nat) (hb : b ≤ e) (he : e < l.length) :
    RowG w (.slice (some ⟨g, off + b * 6, none⟩) (e + 1 - b) (cap - b)) 6 ((l.take (e + 1)).drop b).length (rowN ((l.take (e + 1)).drop b)) := by
  have hlen : ((l.take (e + 1)).drop b).length = e + 1 - b := by simp; omega
  refine ⟨rowN_len _, .inr ?_⟩
  obtain ⟨h0, h⟩ := h
  rcases h with ⟨-, h⟩ | ⟨g', off', cap', e1, h1, h2, h3, h4⟩
  · omega
  · simp only [Value.slice.injEq, Option.some.injEq, Addr.mk.injEq] at e1
    obtain ⟨⟨rfl, rfl, -⟩, -, rfl⟩ := e1
    refine ⟨g, off + b * 6, cap - b, by rw [hlen], by omega, by unfold maxLen at *; omega, h3, fun j hj => ?_⟩
    rw [hlen] at hj
    rw [Nat.add_assoc, h4 (b * 6 + j) (by omega), rowN_drop, rowN_take, List.getElem?_drop, List.getElem?_take_of_lt (by omega)]

set_option maxRecDepth 100000 in
set_option maxHeartbeats 2000000 in
theorem cut_any (l : List Nd) (bs : List Nat) (e : Nat) (v : Value) (w : World) (hl : l.length ≤ 100) (hg : Good l bs) (he : e < l.length) (hr : RowG w v 6 l.length (rowN l)) (h1 : ∀ n ∈ l, Mvb n) :
    Calls Try.prog 26 #[v, .int .i64 (e : Int)] w fun x w' => ∃ u', x = .returned u' ∧ w'.ownsRow w.heap.size 50 6 u' (cutL l (bs.getD e 0) e).length (rowN (cutL l (bs.getD e 0) e)) ∧ Below w.heap.size w w' := by
  obtain ⟨ao, cap, rfl⟩ := rowG_shape hr
  have HR := hidE hr
  have HG := hidE hg
  have H1 := hidE h1
  have hbe : bs.getD e 0 ≤ e := good_le hg e he
  clear hr hg h1
  generalize hb : bs.getD e 0 = b at *
  have HE := hidE hb
  clear hb
  have hz : decide (l.length ≤ e) = false := by simp; omega
  have hz' : (l.length ≤ e) = False := by simp; omega
  go_enter Try.func26, Try.ntmps26
  go_wp2_with fail
  go_loop [5] (fun i => ∃ k : Nat, k ≤ e ∧ i = .int .i64 k ∧ Hid (bs.getD k 0 = b)) (fun i => (intOf i).toNat)
  case atStart => exact ⟨e, Nat.le_refl _, rfl, HE⟩
  case round =>
    clear HE
    obtain ⟨k, hk, rfl, HE⟩ := hrel
    have hkl : k < l.length := by omega
    obtain ⟨g, off, rfl, hnode, l1, l2, l3⟩ := rowN_node HR.out _ hkl
    obtain ⟨ok, a0, aa, -, -⟩ := good_at HG.out (List.getElem?_eq_getElem hkl)
    obtain ⟨p1, -⟩ := good_part HG.out (List.getElem?_eq_getElem hkl)
    generalize l[k] = nd at *
    obtain ⟨n0, n1, n2, n3, n4, n5⟩ := hnode
    unfold maxLen at l2
    by_cases ha : 1 ≤ ar nd.op
    · obtain ⟨x0, x1, x2⟩ := p1 ha
      have ha2 : 0 < ar nd.op := by omega
      obtain ⟨q, hq⟩ : ∃ q : Nat, nd.x = (q : Int) := ⟨nd.x.toNat, by omega⟩
      rw [hq] at n1 x1
      have hqk : q < k := by omega
      have HQ : Hid (bs.getD q 0 = b) := by
        show _ = _
        rw [← HE.out, ← x2, hq]; rfl
      clear x2 p1 aa hq x0
      go_wp2_with (go_at_call 17; refine (arity_any _ _).mono ?_; rintro e w' ⟨rfl, hw⟩; subst w')
      go_round
      case rel => exact ⟨q, by omega, rfl, HQ⟩
      case measure => simp [intOf]; omega
    · have ha2 : ¬ (0 < ar nd.op) := by omega
      have hbk : b = k := by rw [← HE.out]; exact aa (by omega)
      subst hbk
      clear p1 aa ha
      go_wp2_with (go_at_call 17; refine (arity_any _ _).mono ?_; rintro e w' ⟨rfl, hw⟩; subst w')
      have hsub := rowN_sub HR.out b e (by omega) he
      have hmv : ∀ n ∈ (l.take (e + 1)).drop b, Mvb n := fun n hn => H1.out n (List.mem_of_mem_take (List.mem_of_mem_drop hn))
      have hlen : ((l.take (e + 1)).drop b).length ≤ 1000 := by simp; omega
      have hk := moved_any w.heap.size [] ((l.take (e + 1)).drop b) (.slice none 0 0) _ (-(b : Int)) w (Nat.le_refl _) (World.ownsRow_nil _ _ _ _) hlen (by simp) hsub (rowG_lo hsub) hmv (by omega) (by omega)
      refine hk.mono ?_
      rintro x w1 ⟨u, rfl, ho, hb⟩
      have HO : Hid (w1.ownsRow w.heap.size 50 6 u (cutL l b e).length (rowN (cutL l b e))) := ho
      have HB := hidE hb
      clear ho hb hsub hmv hlen hk
      go_wp2_with fail
      go_ret
      exact ⟨u, rfl, HO.out, HB.out⟩
end Go.Proofs.Ytepfpmagppckeaa

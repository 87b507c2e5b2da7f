/- The contracts of slices.IndexFunc and slices.DeleteFunc at the closure of a sector's write, whatever is found, over this seat's translation. Conditions: as named. -/
import Derived.Test.YtjiopjdbifcfkacDisk4
namespace Go.Proofs.Ytjiopjdbifcfkac
open Go.ChangeShapes Go.WideShapes Go.ChangeAt Go.RowKit
set_option linter.unusedVariables false
set_option linter.unusedSimpArgs false

theorem take_oneW {α : Type} (ps : List α) (m : Nat) (h : m < ps.length) : ps.take (m + 1) = ps.take m ++ [ps[m]] := by
  rw [List.take_add_one, List.getElem?_eq_getElem h]
  rfl
theorem owns_setW {w : World} {base g n cap size : Nat} {e : TypeId} {xs : List Value} (h : w.ownsRow base e size (.slice (some ⟨g, 0, none⟩) n cap) n xs) (p : Nat) (u : Value) :
    (w.setCell ⟨g, p, none⟩ u).ownsRow base e size (.slice (some ⟨g, 0, none⟩) n cap) n (xs.set p u) := by
  obtain ⟨h0, h1⟩ := h
  refine ⟨by simpa using h0, ?_⟩
  rcases h1 with ⟨e1, -⟩ | ⟨g', cap', cur, e1, hb, hg, hle, hm, hs, ht⟩
  · cases e1
  · simp only [Value.slice.injEq, Option.some.injEq, Addr.mk.injEq, and_true, true_and] at e1
    obtain ⟨rfl, rfl⟩ := e1
    refine .inr ⟨g, cap, cur.setIfInBounds p u, rfl, hb, ?_, hle, hm, by simpa using hs, ?_⟩
    · simp [World.setCell, Array.getElem?_modify, hg]
    · rw [← ht, Array.toList_setIfInBounds, List.take_set]
theorem owns_setCells {base g n cap size : Nat} {e : TypeId} : ∀ (vs : List Value) (o : Nat) (w : World) (xs : List Value), w.ownsRow base e size (.slice (some ⟨g, 0, none⟩) n cap) n xs → o + vs.length ≤ xs.length →
    (w.setCells g o vs).ownsRow base e size (.slice (some ⟨g, 0, none⟩) n cap) n (xs.take o ++ (vs ++ xs.drop (o + vs.length)))
  | [], o, w, xs, h, _ => by
    rw [World.setCells]
    simpa using h
  | v :: r, o, w, xs, h, hl => by
    rw [List.length_cons] at hl
    have h1 := owns_setCells r (o + 1) _ _ (owns_setW h o v) (by rw [List.length_set]; omega)
    have e1 : (xs.set o v).take (o + 1) = xs.take o ++ [v] := by
      rw [take_oneW _ o (by rw [List.length_set]; omega), List.getElem_set_self, List.take_set, List.set_eq_of_length_le (by simp; omega)]
    have e2 : (xs.set o v).drop (o + 1 + r.length) = xs.drop (o + (v :: r).length) := by
      rw [List.drop_set_of_lt (by omega), List.length_cons]
      congr 1
      omega
    rw [e1, e2, List.append_assoc] at h1
    exact h1
theorem owns_shrink {w : World} {base g n cap size : Nat} {e : TypeId} {xs : List Value} (h : w.ownsRow base e size (.slice (some ⟨g, 0, none⟩) n cap) n xs) (i : Nat) (hi : i ≤ n) : w.ownsRow base e size (.slice (some ⟨g, 0, none⟩) i cap) i (xs.take (i * size)) := by
  obtain ⟨h0, h1⟩ := h
  have hle2 : i * size ≤ n * size := Nat.mul_le_mul_right size hi
  refine ⟨by rw [List.length_take]; omega, ?_⟩
  rcases h1 with ⟨e1, -⟩ | ⟨g', cap', cur, e1, hb, hg, hle, hm, hs, ht⟩
  · cases e1
  · simp only [Value.slice.injEq, Option.some.injEq, Addr.mk.injEq, and_true, true_and] at e1
    obtain ⟨rfl, rfl⟩ := e1
    refine .inr ⟨g, cap, cur, rfl, hb, hg, by omega, hm, hs, ?_⟩
    rw [← ht, List.take_take, Nat.min_eq_left hle2]
theorem owns_head {w : World} {base n size : Nat} {e : TypeId} {v : Value} {xs : List Value} (h : w.ownsRow base e size v n xs) (h0 : 0 < n) : ∃ g cap, v = .slice (some ⟨g, 0, none⟩) n cap ∧ base ≤ g ∧ g < w.heap.size ∧ n ≤ cap ∧ cap ≤ maxLen := by
  rcases h.2 with ⟨-, hn⟩ | ⟨g, cap, cur, rfl, hb, hg, hle, hm, -⟩
  · omega
  · exact ⟨g, cap, rfl, hb, (Array.getElem?_eq_some_iff.1 hg).1, hle, hm⟩
theorem owns_thaw {w : World} {base g n cap size : Nat} {e : TypeId} {xs : List Value} (h : w.ownsRow base e size (.slice (some ⟨g, 0, none⟩) n cap) n xs) (o : Nat) : w.frozen? ⟨g, o, none⟩ = false := by
  obtain ⟨h0, h1⟩ := h
  rcases h1 with ⟨e1, -⟩ | ⟨g', cap', cur, e1, hb, hg, hle, hm, hs, ht⟩
  · cases e1
  · simp only [Value.slice.injEq, Option.some.injEq, Addr.mk.injEq, and_true, true_and] at e1
    obtain ⟨rfl, rfl⟩ := e1
    simp [World.frozen?, hg]
theorem rowW_set (L : List Wr) (i : Nat) (p : Wr) (hi : i < L.length) : (rowW L).take (i * 257) ++ (cellsW p ++ (rowW L).drop (i * 257 + (cellsW p).length)) = rowW (L.set i p) := by
  unfold rowW
  have h1 : (rowOf cellsW (L.take i)).length = i * 257 := by rw [rowOf_len cellsW_len, List.length_take, Nat.min_eq_left (by omega)]
  have h2 : rowOf cellsW L = rowOf cellsW (L.take i) ++ (cellsW L[i] ++ rowOf cellsW (L.drop (i + 1))) := by
    rw [← rowOf_cons, ← rowOf_app, ← List.drop_eq_getElem_cons hi, List.take_append_drop]
  have h3 : rowOf cellsW (L.set i p) = rowOf cellsW (L.take i) ++ (cellsW p ++ rowOf cellsW (L.drop (i + 1))) := by
    rw [List.set_eq_take_append_cons_drop, if_pos hi, rowOf_app, rowOf_cons]
  rw [h3, h2, List.take_left' h1, cellsW_len, List.drop_append, List.drop_of_length_le (by omega), List.nil_append, h1, Nat.add_sub_cancel_left, List.drop_left' (cellsW_len _)]

/-- the row while writes are taken out: the first i are those that stay of the first j, behind j it is as it was -/
structure DelR (ps : List Wr) (c : Wr → Bool) (i j : Nat) (L : List Wr) : Prop where
  ij : i ≤ j
  jn : j ≤ ps.length
  ln : L.length = ps.length
  fs : L.take i = (ps.take j).filter (fun p => !c p)
  rs : ∀ q, j ≤ q → L[q]? = ps[q]?
theorem del_start {ps : List Wr} {c : Wr → Bool} {i : Nat} (hi : i < ps.length) (h1 : ∀ q p, q < i → ps[q]? = some p → c p = false) (h2 : ∀ p, ps[i]? = some p → c p = true) : DelR ps c i (i + 1) ps := by
  refine ⟨by omega, by omega, rfl, ?_, fun _ _ => rfl⟩
  rw [take_oneW ps i hi, List.filter_append]
  have e1 : (ps.take i).filter (fun p => !c p) = ps.take i := List.filter_eq_self.2 fun p hp => by
    obtain ⟨q, hq, rfl⟩ := List.mem_iff_getElem.1 hp
    have hq' : q < i := by
      rw [List.length_take] at hq
      omega
    have hq2 : q < ps.length := by omega
    have := h1 q ((ps.take i)[q]) hq' (by rw [List.getElem_take, List.getElem?_eq_getElem hq2])
    rw [this]
    rfl
  have e2 := h2 ps[i] (List.getElem?_eq_getElem hi)
  simp only [e1, List.filter_cons, e2, Bool.not_true, Bool.false_eq_true, if_false, List.filter_nil, List.append_nil]
theorem del_gone {ps : List Wr} {c : Wr → Bool} {i j : Nat} {L : List Wr} (h : DelR ps c i j L) (hj : j < ps.length) (hc : c ps[j] = true) : DelR ps c i (j + 1) L := by
  refine ⟨by have := h.ij; omega, by omega, h.ln, ?_, fun q hq => h.rs q (by omega)⟩
  rw [h.fs, take_oneW ps j hj, List.filter_append]
  simp only [List.filter_cons, hc, Bool.not_true, Bool.false_eq_true, if_false, List.filter_nil, List.append_nil]
theorem del_stay {ps : List Wr} {c : Wr → Bool} {i j : Nat} {L : List Wr} (h : DelR ps c i j L) (hij : i < j) (hj : j < ps.length) (hc : c ps[j] = false) : DelR ps c (i + 1) (j + 1) (L.set i ps[j]) := by
  have hi : i < L.length := by rw [h.ln]; omega
  refine ⟨by omega, by omega, by rw [List.length_set]; exact h.ln, ?_, fun q hq => ?_⟩
  · have e : (L.set i ps[j]).take (i + 1) = L.take i ++ [ps[j]] := by
      rw [take_oneW _ i (by rw [List.length_set]; exact hi), List.getElem_set_self, List.take_set, List.set_eq_of_length_le (by simp; omega)]
    rw [e, h.fs, take_oneW ps j hj, List.filter_append]
    simp only [List.filter_cons, hc, Bool.not_false, if_true, List.filter_nil]
  · rw [List.getElem?_set_ne (by omega)]
    exact h.rs q (by omega)
theorem del_len {ps : List Wr} {c : Wr → Bool} {i j : Nat} {L : List Wr} (h : DelR ps c i j L) : i = ((ps.take j).filter (fun p => !c p)).length := by
  rw [← h.fs, List.length_take, h.ln]
  have := h.ij
  have := h.jn
  omega


set_option maxRecDepth 100000 in
set_option maxHeartbeats 1000000 in
theorem index_w (ws : List Wr) (bit : Int) (gb cap : Nat) (ao : Option Addr) (w : World) (hl : ws.length ≤ 1000) (hr : RowG w (.slice ao ws.length cap) 257 ws.length (rowW ws)) (hb : BlkAt w gb [.int .i64 bit]) :
    Calls Try.prog 31 #[.slice ao ws.length cap, .func (.func 29) #[] #[.pointer (some ⟨gb, 0, none⟩)]] w fun e w' =>
      (∃ i : Nat, i < ws.length ∧ (∀ q p, q < i → ws[q]? = some p → (p.1 == bit) = false) ∧ (∀ p, ws[i]? = some p → (p.1 == bit) = true) ∧ e = .returned (.int .i64 (i : Int)) ∧ Below w.heap.size w w') ∨ ((∀ p ∈ ws, (p.1 == bit) = false) ∧ e = .returned (.int .i64 (-1)) ∧ Below w.heap.size w w') := by
  have HR := hidE hr
  have HBB := hidE hb
  clear hr hb
  go_enter Try.func31, Try.ntmps31
  go_wp2_with fail
  go_loopw [8] (fun i wr => ∃ m : Nat, m ≤ ws.length ∧ i = .int .i64 m ∧ Hid (∀ q p, q < m → ws[q]? = some p → (p.1 == bit) = false) ∧ Hid (Below w.heap.size w wr)) (fun i _ => ws.length - (intOf i).toNat)
  case atStart => exact ⟨0, Nat.zero_le _, rfl, fun q p hq => absurd hq (by omega), Below.refl _ _⟩
  case round =>
    obtain ⟨m, hm, rfl, HM, HB⟩ := hrel
    by_cases hlt : m < ws.length
    · obtain ⟨g, off, rfl, hcell, q1, q2, lg⟩ := rowOf_val cellsW_len (rowG_below HR.out HB.out) m hlt
      have RGH : Hid (wr.rangeAt g (off + m * 257) (cellsW ws[m])) := fun j v hv => by
        rw [Nat.add_assoc, hcell j (by have := (List.getElem?_eq_some_iff.1 hv).1; rw [cellsW_len] at this; exact this)]
        exact hv
      have HI9 : Hid ((Try.prog.info? 74).map (·.size) = some (cellsW ws[m]).length) := by
        show _ = _
        rw [cellsW_len]; exact sizeW
      have SC := hidE (scw1_any ws[m] bit gb wr (blk_below HBB.out HB.out HBB.out.lt))
      have HX : Hid (∀ r, (ws[m].1 == bit) = r → ∀ p, ws[m]? = some p → (p.1 == bit) = r) := fun r hr p hp => by
        rw [List.getElem?_eq_getElem hlt] at hp
        rw [← Option.some.inj hp]
        exact hr
      generalize hrr : (ws[m].1 == bit) = r at *
      have HX := hidE (HX.out r rfl)
      generalize cellsW ws[m] = cw at *
      unfold maxLen at q2
      clear hcell hrr
      go_wp2_with (refine wpList_load_mid rfl 74 _ rfl g (off + m * 257) rfl cw _ RGH.out Try.underlying74 rfl HI9.out ?_)
      refine SC.out.mono ?_
      rintro e w1 ⟨rfl, hb⟩
      have HB1 := nxt HB hb
      clear hb RGH HI9 SC
      cases r with
      | true =>
        go_wp2_with fail
        go_ret
        exact .inl ⟨m, hlt, HM.out, HX.out, rfl, HB1.out⟩
      | false =>
        have HM1 : Hid (∀ q p, q < m + 1 → ws[q]? = some p → (p.1 == bit) = false) := fun q p hq hp => by
          by_cases e : q = m
          · subst e
            exact HX.out p hp
          · exact HM.out q p (by omega) hp
        go_wp2_with fail
        go_roundw
        case rel => exact ⟨m + 1, by omega, by go_num, HM1, HB1⟩
        case measure => simp [intOf]; omega
    · have hme : m = ws.length := by omega
      subst hme
      go_wp2_with fail
      go_ret
      exact .inr ⟨fun p hp => by
        obtain ⟨q, hq, rfl⟩ := List.mem_iff_getElem.1 hp
        exact HM.out q _ hq (List.getElem?_eq_getElem hq), rfl, HB.out⟩
end Go.Proofs.Ytjiopjdbifcfkac

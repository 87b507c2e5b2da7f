/- The contracts of penstockref.valueAt and Eval for every expression that may be, over this seat's translation. Conditions: the nodes and the event may be. -/
import Derived.Test.YtepfpmagppckeaaRefVA
namespace Go.Proofs.Ytepfpmagppckeaa
open Go.ChangeShapes Go.WideShapes Go.ChangeAt Go.RowKit
set_option linter.unusedVariables false
set_option linter.unusedSimpArgs false

theorem okN_parts {n : Nd} (h : okN n = 0) : 0 ≤ ar n.op ∧ (n.op ≠ 1 → n.k = 0 ∧ n.v = 0) ∧ (n.op ≠ 2 → n.n = 0) ∧ (ar n.op < 2 → n.y = 0) ∧ (ar n.op < 1 → n.x = 0) ∧ 0 ≤ n.n ∧ n.n < 4 := by
  unfold okN at h
  by_cases hb : badN n
  · simp [hb] at h
  · rw [if_neg hb] at h
    by_cases h3 : n.n < 0 ∨ 4 ≤ n.n
    · rw [if_pos h3] at h; exact absurd h (by decide)
    · unfold badN at hb
      refine ⟨by omega, fun q => by omega, fun q => by omega, fun q => by omega, fun q => by omega, by omega, by omega⟩

theorem ok_vAt {ev : List V2} (hev : ∀ p ∈ ev, okV p) {l : List Nd} (hn : ∀ n ∈ l, okN n = 0) (i : Int) : okV (vAt ev l i) :=
  ok_nth (ok_evF hev l [] hn (fun p hp => absurd hp (by simp))) _

theorem ar_op {op : Int} (h : 0 ≤ ar op) : op = 1 ∨ op = 2 ∨ op = 3 ∨ op = 4 ∨ op = 5 ∨ (6 ≤ op ∧ ar op = 2) := by
  unfold ar at h ⊢
  by_cases h1 : op = 1 ∨ op = 2
  · omega
  · rw [if_neg h1] at h ⊢
    by_cases h2 : 3 ≤ op ∧ op ≤ 5
    · omega
    · rw [if_neg h2] at h ⊢
      by_cases h3 : 6 ≤ op ∧ op ≤ 12
      · rw [if_pos h3]; omega
      · rw [if_neg h3] at h; omega

theorem rva_all (l : List Nd) (bs : List Nat) (ao : Option Addr) (cap : Nat) (t k1 k2 a1 a2 b1 b2 : Int) (hl : l.length ≤ 1000) (hg : Good l bs) (hev : ∀ p ∈ evE t k1 k2 a1 a2 b1 b2, okV p) :
    ∀ (i : Nat), i < l.length → ∀ w, RowG w (.slice ao l.length cap) 6 l.length (rowN l) →
    Calls Try.prog 50 #[.slice ao l.length cap, .int .i64 (i : Int), aggE t k1 k2 a1 a2 b1 b2] w fun e w' => e = .returned (.agg #[.int .i64 (vAt (evE t k1 k2 a1 a2 b1 b2) l i).1, .int .i64 (vAt (evE t k1 k2 a1 a2 b1 b2) l i).2]) ∧ Below w.heap.size w w' := by
  intro i
  induction i using Nat.strongRecOn with
  | ind i ih =>
    intro hi w hr
    have hn := List.getElem?_eq_getElem hi
    have hv := vAt_eq (ev := evE t k1 k2 a1 a2 b1 b2) hg hn
    obtain ⟨ok, a0, -⟩ := good_at hg hn
    obtain ⟨p1, p2⟩ := good_part hg hn
    obtain ⟨-, q1, q2, q3, q4, q5, q6⟩ := okN_parts ok
    have okx := fun j => ok_vAt hev (good_ok hg) (l := l) j
    rw [hv]
    generalize l[i] = n at *
    obtain ⟨op, x, y, nn, k, v⟩ := n
    simp only at *
    rcases ar_op a0 with rfl | rfl | rfl | rfl | rfl | ⟨h6, h2⟩
    · obtain rfl := q2 (by decide)
      obtain rfl := q3 (by decide)
      obtain rfl := q4 (by decide)
      exact rva_1 l ao cap i k v t k1 k2 a1 a2 b1 b2 w hl hi hr hn
    · obtain ⟨rfl, rfl⟩ := q1 (by decide)
      obtain rfl := q3 (by decide)
      obtain rfl := q4 (by decide)
      rcases (by omega : nn = 0 ∨ nn = 1 ∨ nn = 2 ∨ nn = 3) with rfl | rfl | rfl | rfl
      · exact rva_2t l ao cap i 0 t k1 k2 a1 a2 b1 b2 w hl hi hr hn rfl
      · exact rva_2k l ao cap i 0 t k1 k2 a1 a2 b1 b2 w hl hi hr hn rfl
      · exact rva_2a l ao cap i 0 t k1 k2 a1 a2 b1 b2 w hl hi hr hn rfl
      · exact rva_2b l ao cap i 0 t k1 k2 a1 a2 b1 b2 w hl hi hr hn rfl
    · obtain ⟨rfl, rfl⟩ := q1 (by decide)
      obtain rfl := q2 (by decide)
      obtain rfl := q3 (by decide)
      obtain ⟨x0, x1, -⟩ := p1 (by decide)
      obtain ⟨j, rfl⟩ : ∃ j : Nat, x = (j : Int) := ⟨x.toNat, by omega⟩
      have C := ih j (by omega) (by omega)
      have o := okx (j : Int)
      have ob := okV_lo o
      show Calls _ _ _ _ fun e w' => e = .returned (.agg #[.int .i64 (negV (vAt (evE t k1 k2 a1 a2 b1 b2) l j).1 (vAt (evE t k1 k2 a1 a2 b1 b2) l j).2).1, .int .i64 (negV (vAt (evE t k1 k2 a1 a2 b1 b2) l j).1 (vAt (evE t k1 k2 a1 a2 b1 b2) l j).2).2]) ∧ _
      generalize vAt (evE t k1 k2 a1 a2 b1 b2) l (j : Int) = X at *
      obtain ⟨x1', x2'⟩ := X
      simp only at C ob ⊢
      unfold negV
      by_cases hk : x1' = 1
      · rw [if_pos hk]
        exact rva_3y l ao cap i j x1' x2' t k1 k2 a1 a2 b1 b2 w hl hi hr hn (by simp [hk]) ob.1 ob.2 C
      · rw [if_neg hk]
        exact rva_3n l ao cap i j x1' x2' t k1 k2 a1 a2 b1 b2 w hl hi hr hn (by simp [hk]) C
    · obtain ⟨rfl, rfl⟩ := q1 (by decide)
      obtain rfl := q2 (by decide)
      obtain rfl := q3 (by decide)
      obtain ⟨x0, x1, -⟩ := p1 (by decide)
      obtain ⟨j, rfl⟩ : ∃ j : Nat, x = (j : Int) := ⟨x.toNat, by omega⟩
      have C := ih j (by omega) (by omega)
      show Calls _ _ _ _ fun e w' => e = .returned (.agg #[.int .i64 (notV (vAt (evE t k1 k2 a1 a2 b1 b2) l j).1 (vAt (evE t k1 k2 a1 a2 b1 b2) l j).2).1, .int .i64 (notV (vAt (evE t k1 k2 a1 a2 b1 b2) l j).1 (vAt (evE t k1 k2 a1 a2 b1 b2) l j).2).2]) ∧ _
      generalize vAt (evE t k1 k2 a1 a2 b1 b2) l (j : Int) = X at *
      obtain ⟨x1', x2'⟩ := X
      simp only at C ⊢
      unfold notV
      by_cases hk : x1' = 2
      · rw [if_pos hk]
        exact rva_4y l ao cap i j x1' x2' t k1 k2 a1 a2 b1 b2 w hl hi hr hn (by simp [hk]) C
      · rw [if_neg hk]
        exact rva_4n l ao cap i j x1' x2' t k1 k2 a1 a2 b1 b2 w hl hi hr hn (by simp [hk]) C
    · obtain ⟨rfl, rfl⟩ := q1 (by decide)
      obtain rfl := q2 (by decide)
      obtain rfl := q3 (by decide)
      obtain ⟨x0, x1, -⟩ := p1 (by decide)
      obtain ⟨j, rfl⟩ : ∃ j : Nat, x = (j : Int) := ⟨x.toNat, by omega⟩
      have C := ih j (by omega) (by omega)
      have o := okx (j : Int)
      show Calls _ _ _ _ fun e w' => e = .returned (.agg #[.int .i64 2, .int .i64 (b01 ((vAt (evE t k1 k2 a1 a2 b1 b2) l j).1 == 0 && (vAt (evE t k1 k2 a1 a2 b1 b2) l j).2 == 0))]) ∧ _
      generalize vAt (evE t k1 k2 a1 a2 b1 b2) l (j : Int) = X at *
      obtain ⟨x1', x2'⟩ := X
      simp only at C ⊢
      have he : (x1' == 0 && x2' == 0) = (x1' == 0) := by
        have := of_decide_eq_true o
        simp only at this
        by_cases h0 : x1' = 0
        · have : x2' = 0 := by omega
          simp [h0, this]
        · simp [h0]
      rw [he]
      exact rva_5 l ao cap i j x1' x2' t k1 k2 a1 a2 b1 b2 w hl hi hr hn C
    · have n1 : op ≠ 1 := by omega
      have n2 : op ≠ 2 := by omega
      have n3 : ¬ (ar op = 1) := by omega
      obtain ⟨rfl, rfl⟩ := q1 n1
      obtain rfl := q2 n2
      obtain ⟨x0, x1, -⟩ := p1 (by omega)
      obtain ⟨y0, y1, -⟩ := p2 h2
      obtain ⟨j, rfl⟩ : ∃ j : Nat, x = (j : Int) := ⟨x.toNat, by omega⟩
      obtain ⟨j', rfl⟩ : ∃ j' : Nat, y = (j' : Int) := ⟨y.toNat, by omega⟩
      have C := ih j (by omega) (by omega)
      have C' := ih j' (by omega) (by omega)
      rw [if_neg n1, if_neg n2, if_neg n3, opV_two h2]
      exact rva_two l ao cap i op j j' _ _ _ _ t k1 k2 a1 a2 b1 b2 w hl hi hr hn h6 (okx _) (okx _) C C'

set_option maxRecDepth 100000 in
theorem reval_any (l : List Nd) (bs : List Nat) (v : Value) (t k1 k2 a1 a2 b1 b2 : Int) (w : World) (hl : l.length ≤ 1000) (h0 : 0 < l.length) (hg : Good l bs) (hev : ∀ p ∈ evE t k1 k2 a1 a2 b1 b2, okV p) (hr : RowG w v 6 l.length (rowN l)) :
    Calls Try.prog 25 #[v, aggE t k1 k2 a1 a2 b1 b2] w fun e w' => e = .returned (.agg #[.int .i64 (evL opV (evE t k1 k2 a1 a2 b1 b2) l).1, .int .i64 (evL opV (evE t k1 k2 a1 a2 b1 b2) l).2]) ∧ Below w.heap.size w w' := by
  obtain ⟨ao, cap, rfl⟩ := rowG_shape hr
  have hW : Below w.heap.size w ((w.alloc (.cells #[.int .i64 t, .int .i64 k1, .int .i64 k2, .int .i64 a1, .int .i64 a2, .int .i64 b1, .int .i64 b2] 37)).alloc (.cells #[.int .i64 0, .int .i64 0] 35)) := ((Below.refl _ _).alloc (Nat.le_refl _) _).alloc (by simp) _
  have HA := hidE (rva_all l bs ao cap t k1 k2 a1 a2 b1 b2 hl hg hev (l.length - 1) (by omega) _ (rowG_below hr hW))
  have HW := hidE hW
  have hv : vAt (evE t k1 k2 a1 a2 b1 b2) l ((l.length - 1 : Nat) : Int) = evL opV (evE t k1 k2 a1 a2 b1 b2) l := by
    unfold vAt evL
    congr 1
    omega
  rw [hv] at HA
  have hi : ((l.length - 1 : Nat) : Int) = (l.length : Int) - 1 := by omega
  rw [hi] at HA
  clear hr hW hv hi
  generalize evL opV (evE t k1 k2 a1 a2 b1 b2) l = X at *
  obtain ⟨x1, x2⟩ := X
  simp only at HA ⊢
  unfold aggE at HA ⊢
  go_enter Try.func25, Try.ntmps25
  go_wp2_with fail
  refine HA.out.mono ?_
  rintro e w1 ⟨rfl, hb⟩
  have HB := hidE hb
  clear hb
  obtain ⟨hc, hf⟩ := rules HB
  go_wp2_with fail
  exact bodyPost_ret (v := .agg #[.int .i64 x1, .int .i64 x2]) (by simp [results, Try.results25, go_sem, hc, hf]) rfl ⟨rfl, ended HB HW.out _ _⟩
end Go.Proofs.Ytepfpmagppckeaa

/- Contracts of Arity and lastFirst of package expr, over this seat's translation. Conditions: none. -/
import Derived.Test.YtepfpmagppckeaaVals4
import Derived.Test.YtepfpmagppckeaaExprPure3
import Derived.OwnWalk
namespace Go.Proofs.Ytepfpmagppckeaa
open Go.ChangeShapes Go.WideShapes Go.ChangeAt Go.RowKit
set_option linter.unusedVariables false
set_option linter.unusedSimpArgs false

theorem hidE {p : Prop} (h : p) : Hid p := h

theorem arity_any (op : Int) (w : World) :
    Calls Try.prog 17 #[.int .i64 op] w fun e w' => e = .returned (.int .i64 (ar op)) ∧ w' = w := by
  by_cases h : 1 ≤ op ∧ op ≤ 12
  · rcases (by omega : op = 1 ∨ op = 2 ∨ op = 3 ∨ op = 4 ∨ op = 5 ∨ op = 6 ∨ op = 7 ∨ op = 8 ∨ op = 9 ∨ op = 10 ∨ op = 11 ∨ op = 12) with rfl | rfl | rfl | rfl | rfl | rfl | rfl | rfl | rfl | rfl | rfl | rfl
    all_goals
      clear h
      go_enter Try.func17, Try.ntmps17
      go_wp2
      go_ret
      exact ⟨rfl, rfl⟩
  · have e : ar op = -1 := by unfold ar; rw [if_neg (by omega), if_neg (by omega), if_neg (by omega)]
    rw [e]
    have h1 : (op == 1) = false := by simp; omega
    have h2 : (op == 2) = false := by simp; omega
    have h3 : (op == 3) = false := by simp; omega
    have h4 : (op == 4) = false := by simp; omega
    have h5 : (op == 5) = false := by simp; omega
    have h6 : (op == 6) = false := by simp; omega
    have h7 : (op == 7) = false := by simp; omega
    have h8 : (op == 8) = false := by simp; omega
    have h9 : (op == 9) = false := by simp; omega
    have h10 : (op == 10) = false := by simp; omega
    have h11 : (op == 11) = false := by simp; omega
    have h12 : (op == 12) = false := by simp; omega
    clear h e
    go_enter Try.func17, Try.ntmps17
    go_wp2
    go_ret
    exact ⟨rfl, rfl⟩

/-- a node as a value, and as cells -/
def aggN (n : Nd) : Value := .agg #[.int .i64 n.op, .int .i64 n.x, .int .i64 n.y, .int .i64 n.n, .int .i64 n.k, .int .i64 n.v]
def cellsN (n : Nd) : List Value := [.int .i64 n.op, .int .i64 n.x, .int .i64 n.y, .int .i64 n.n, .int .i64 n.k, .int .i64 n.v]
/-- a node's parts, the last one first -/
def partsN (n : Nd) : List Int := if ar n.op = 1 then [n.x] else if ar n.op = 2 then [n.y, n.x] else []

/-- a slice that holds these cells -/
def RowG (w : World) (v : Value) (size n : Nat) (xs : List Value) : Prop :=
  xs.length = n * size ∧ (((∃ ao cap, v = .slice ao 0 cap) ∧ n = 0) ∨ ∃ g off cap, v = .slice (some ⟨g, off, none⟩) n cap ∧ n ≤ cap ∧ cap ≤ maxLen ∧ g < w.heap.size ∧ ∀ j, j < n * size → w.cell? ⟨g, off + j, none⟩ = xs[j]?)

theorem rowG_of_owns {w : World} {base size n : Nat} {e : TypeId} {v : Value} {xs : List Value} (h : w.ownsRow base e size v n xs) : RowG w v size n xs := by
  obtain ⟨h0, h1⟩ := h
  refine ⟨h0, ?_⟩
  rcases h1 with ⟨rfl, hn⟩ | ⟨g, cap, cur, rfl, hb, hg, hle, hm, hs, ht⟩
  · exact .inl ⟨⟨_, _, rfl⟩, hn⟩
  · have hsz : g < w.heap.size := (Array.getElem?_eq_some_iff.1 hg).1
    refine .inr ⟨g, 0, cap, rfl, hle, hm, hsz, fun i hi => ?_⟩
    have hc := World.ownsRow.cellAt (w := w) (base := base) (e := e) (size := size) (g := g) (n := n) (cap := cap) ⟨h0, .inr ⟨g, cap, cur, rfl, hb, hg, hle, hm, hs, ht⟩⟩ i hi
    rw [Nat.zero_add, hc]

theorem rowG_below {w w' : World} {size n : Nat} {v : Value} {xs : List Value} (h : RowG w v size n xs) (hb : Below w.heap.size w w') : RowG w' v size n xs := by
  obtain ⟨h0, h⟩ := h
  refine ⟨h0, ?_⟩
  rcases h with h | ⟨g, off, cap, h1, h2, h3, h4, h5⟩
  · exact .inl h
  · exact .inr ⟨g, off, cap, h1, h2, h3, Nat.lt_of_lt_of_le h4 hb.size, fun i hi => by rw [hb.cell (p := ⟨g, off + i, none⟩) h4]; exact h5 i hi⟩

theorem rowG_shape {w : World} {size n : Nat} {v : Value} {xs : List Value} (h : RowG w v size n xs) : ∃ ao cap, v = .slice ao n cap := by
  rcases h.2 with ⟨⟨ao, cap, rfl⟩, rfl⟩ | ⟨g, off, cap, rfl, _⟩
  · exact ⟨ao, cap, rfl⟩
  · exact ⟨_, _, rfl⟩

theorem rowG_lit (w : World) (e : TypeId) (l : List Value) (g n : Nat) (hg : g = w.heap.size) (hn : n = l.length) (hm : n ≤ maxLen) : RowG (w.alloc (.cells l.toArray e)) (.slice (some ⟨g, 0, none⟩) n n) 1 n l := by
  subst hg hn
  have h := World.ownsRow_lit (base := 0) (size := 1) (e := e) w l.toArray l.length (Nat.zero_le _) hm (by simp)
  exact rowG_of_owns (base := 0) (by simpa using h)

theorem lastFirst_any (n : Nd) (w : World) :
    Calls Try.prog 62 #[aggN n] w fun e w' => ∃ v, e = .returned v ∧ RowG w' v 1 (partsN n).length ((partsN n).map (Value.int .i64)) ∧ Below w.heap.size w w' := by
  obtain ⟨op, x, y, nn, k, v⟩ := n
  unfold aggN partsN
  simp only
  by_cases h1 : ar op = 1
  · have b1 : (ar op == 1) = true := by simp [h1]
    rw [if_pos h1]
    clear h1
    go_enter Try.func62, Try.ntmps62
    go_wp2_with (go_at_call 17; refine (arity_any _ _).mono ?_; rintro e w' ⟨rfl, rfl⟩)
    go_ret
    exact ⟨_, rfl, rowG_lit _ _ [.int .i64 x] _ 1 (by simp) rfl (by decide), ((Below.refl _ _).alloc (Nat.le_refl _) _).alloc (by simp) _⟩
  · have b1 : (ar op == 1) = false := by simp [h1]
    rw [if_neg h1]
    clear h1
    by_cases h2 : ar op = 2
    · have b2 : (ar op == 2) = true := by simp [h2]
      rw [if_pos h2]
      clear h2
      go_enter Try.func62, Try.ntmps62
      go_wp2_with (go_at_call 17; refine (arity_any _ _).mono ?_; rintro e w' ⟨rfl, rfl⟩)
      go_ret
      exact ⟨_, rfl, rowG_lit _ _ [.int .i64 y, .int .i64 x] _ 2 (by simp) rfl (by decide), ((Below.refl _ _).alloc (Nat.le_refl _) _).alloc (by simp) _⟩
    · have b2 : (ar op == 2) = false := by simp [h2]
      rw [if_neg h2]
      clear h2
      go_enter Try.func62, Try.ntmps62
      go_wp2_with (go_at_call 17; refine (arity_any _ _).mono ?_; rintro e w' ⟨rfl, rfl⟩)
      go_ret
      exact ⟨_, rfl, ⟨rfl, .inl ⟨⟨_, _, rfl⟩, rfl⟩⟩, (Below.refl _ _).alloc (Nat.le_refl _) _⟩
end Go.Proofs.Ytepfpmagppckeaa

/- The contract of beginOf of package expr, over this seat's translation. Conditions: the slice holds where the nodes ahead begin. -/
import Derived.Test.YtepfpmagppckeaaExpr2
namespace Go.Proofs.Ytepfpmagppckeaa
open Go.ChangeShapes Go.WideShapes Go.ChangeAt Go.RowKit
set_option linter.unusedVariables false
set_option linter.unusedSimpArgs false

def natV (b : Nat) : Value := .int .i64 (b : Int)

def stepsB (bs : List Nat) : Nat → List Int → Option Nat
  | b, [] => some b
  | b, p :: ps => (stepB bs b p).bind fun c => stepsB bs c ps

theorem stepsB_is (n : Nd) (bs : List Nat) : stepsB bs bs.length (partsN n) = begN n bs := by
  unfold partsN begN
  by_cases h1 : ar n.op = 1
  · rw [if_pos h1, if_pos h1]
    simp only [stepsB]
    cases stepB bs bs.length n.x <;> rfl
  · rw [if_neg h1, if_neg h1]
    by_cases h2 : ar n.op = 2
    · rw [if_pos h2, if_pos h2]
      simp only [stepsB]
      congr 1
      funext b
      cases stepB bs b n.x <;> rfl
    · rw [if_neg h2, if_neg h2]
      rfl

/-- what beginOf returns -/
def begV : Option Nat → Value
  | none => .tuple #[.int .i64 0, .bool false]
  | some b => .tuple #[.int .i64 (b : Int), .bool true]

/-- a cell of a row of one-cell elements -/
theorem rowG_cell {w : World} {n : Nat} {ao : Option Addr} {cap : Nat} {xs : List Value} (h : RowG w (.slice ao n cap) 1 n xs) (j : Nat) (hj : j < n) :
    ∃ g off x, ao = some ⟨g, off, none⟩ ∧ xs[j]? = some x ∧ w.cell? ⟨g, off + j, none⟩ = some x ∧ n ≤ cap ∧ cap ≤ maxLen ∧ g < w.heap.size := by
  obtain ⟨h0, h⟩ := h
  rcases h with ⟨-, h⟩ | ⟨g, off, cap', e, h1, h2, h3, h4⟩
  · omega
  · simp only [Value.slice.injEq] at e
    obtain ⟨rfl, -, rfl⟩ := e
    have hx := h4 j (by omega)
    rw [List.getElem?_eq_getElem (by omega)] at hx
    exact ⟨g, off, _, rfl, List.getElem?_eq_getElem (by omega), hx, h1, h2, h3⟩

theorem beginOf_any (n : Nd) (bs : List Nat) (v : Value) (w : World) (hl : bs.length ≤ 50) (hr : RowG w v 1 bs.length (bs.map natV)) (hle : ∀ j, j < bs.length → bs.getD j 0 ≤ j) :
    Calls Try.prog 44 #[aggN n, v] w fun e w' => e = .returned (begV (begN n bs)) ∧ Below w.heap.size w w' := by
  obtain ⟨ao, cap, rfl⟩ := rowG_shape hr
  have HR := hidE hr
  have HLE := hidE hle
  clear hr hle
  rw [← stepsB_is]
  have H0 : Hid (Below w.heap.size w (w.alloc (.cells #[.int .i64 n.op, .int .i64 n.x, .int .i64 n.y, .int .i64 n.n, .int .i64 n.k, .int .i64 n.v] 50))) := (Below.refl _ _).alloc (Nat.le_refl _) _
  have HL := hidE (lastFirst_any n (w.alloc (.cells #[.int .i64 n.op, .int .i64 n.x, .int .i64 n.y, .int .i64 n.n, .int .i64 n.k, .int .i64 n.v] 50)))
  have h2 : (partsN n).length ≤ 2 := by unfold partsN; repeat' split
                                        all_goals simp
  unfold aggN at HL ⊢
  generalize hT : stepsB bs bs.length (partsN n) = T
  have HT := hidE hT
  clear hT
  generalize partsN n = ps at *
  go_enter Try.func44, Try.ntmps44
  go_wp2_with fail
  refine HL.out.mono ?_
  rintro e w1 ⟨u, rfl, hr, hb⟩
  obtain ⟨ao1, cap1, rfl⟩ := rowG_shape hr
  have HB := hidE (H0.out.trans (hb.mono H0.out.size))
  have HR := hidE (rowG_below HR.out HB.out)
  have HP := hidE hr
  clear hr hb HL H0
  go_wp2_with fail
  go_loop [6, 14] (fun b i => ∃ (m c : Nat), m ≤ ps.length ∧ c ≤ bs.length ∧ i = .int .i64 m ∧ b = .int .i64 c ∧ Hid (stepsB bs c (ps.drop m) = T)) (fun _ i => ps.length - (intOf i).toNat)
  case atStart => exact ⟨0, bs.length, Nat.zero_le _, Nat.le_refl _, rfl, rfl, HT⟩
  case round =>
    clear HT
    obtain ⟨m, c, hm, hc, rfl, rfl, HS⟩ := hrel
    by_cases hlt : m < ps.length
    · obtain ⟨g, off, x, rfl, hx, cx, l1, l2, l3⟩ := rowG_cell HP.out m hlt
      rw [List.getElem?_map, List.getElem?_eq_getElem hlt] at hx
      simp only [Option.map_some, Option.some.injEq] at hx
      subst hx
      have hS := HS.out
      rw [List.drop_eq_getElem_cons hlt] at hS
      generalize ps[m] = p at *
      simp only [stepsB] at hS
      unfold maxLen at l2
      by_cases h0 : c = 0
      · have e : T = none := by rw [← hS]; unfold stepB; rw [if_pos (Or.inl h0)]; rfl
        subst e
        have z : ((c : Int) == 0) = true := by simp [h0]
        clear hS h0 HS
        go_wp2_with fail
        go_ret2
        exact ⟨rfl, HB.out⟩
      · have z : ((c : Int) == 0) = false := by simp [h0]
        by_cases hp : p = (c : Int) - 1
        · obtain ⟨d, rfl⟩ : ∃ d, c = d + 1 := ⟨c - 1, by omega⟩
          have hp' : p = (d : Int) := by omega
          subst hp'
          clear hp
          have z2 : ((d : Int) != ((d + 1 : Nat) : Int) - 1) = false := by simp
          have hd : d < bs.length := by omega
          obtain ⟨g2, off2, x2, rfl, hx2, cx2, l12, l22, l32⟩ := rowG_cell HR.out d hd
          rw [List.getElem?_map, List.getElem?_eq_getElem hd] at hx2
          simp only [Option.map_some, Option.some.injEq, natV] at hx2
          subst hx2
          have hst : stepB bs (d + 1) (d : Int) = some bs[d] := by
            unfold stepB
            rw [if_neg (by omega)]
            congr 1
            rw [List.getD_eq_getElem?_getD, Nat.add_sub_cancel, List.getElem?_eq_getElem hd]; rfl
          rw [hst] at hS
          simp only [Option.bind_some] at hS
          have hbd := HLE.out d hd
          rw [List.getD_eq_getElem?_getD, List.getElem?_eq_getElem hd] at hbd
          simp only [Option.getD_some] at hbd
          have HS := hidE hS
          clear hS hst h0
          generalize bs[d] = q at *
          unfold maxLen at l22
          go_wp2_with fail
          go_round
          case rel => exact ⟨m + 1, q, by omega, by omega, by go_num, rfl, HS⟩
          case measure => simp [intOf]; omega
        · have e : T = none := by rw [← hS]; unfold stepB; rw [if_pos (Or.inr hp)]; rfl
          subst e
          have z2 : (p != (c : Int) - 1) = true := by simpa using hp
          clear hS h0 HS hp
          go_wp2_with fail
          go_ret2
          exact ⟨rfl, HB.out⟩
    · have e : T = some c := by
        have := HS.out
        rw [List.drop_eq_nil_of_le (by omega)] at this
        exact this.symm
      subst e
      go_wp2_with fail
      go_ret2
      exact ⟨rfl, HB.out⟩
end Go.Proofs.Ytepfpmagppckeaa

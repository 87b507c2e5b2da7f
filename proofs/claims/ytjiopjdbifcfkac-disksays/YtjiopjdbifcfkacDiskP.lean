/- What the code's disk and the document's disk have in common, plainly: a write of a bit, and what a fall leaves of it. Conditions: none. -/
import Derived.Test.YtjiopjdbifcfkacRef5
namespace Go.Proofs.Ytjiopjdbifcfkac
open Go.ChangeShapes Go.WideShapes Go.ChangeAt Go.RowKit
set_option linter.unusedVariables false
set_option linter.unusedSimpArgs false

theorem settleK_drop (keep b : Int) (hb : kb keep b = false) : ∀ (ws : List Wr) (k : Blk), settleK keep k (ws.filter (fun p => !(p.1 == b))) = settleK keep k ws
  | [], k => rfl
  | p :: ws, k => by
    have ih := settleK_drop keep b hb ws
    by_cases e : p.1 = b
    · have e1 : (p.1 == b) = true := by simp [e]
      rw [List.filter_cons]
      simp only [e1, Bool.not_true, Bool.false_eq_true, if_false]
      rw [ih k]
      show _ = settleK keep (if kb keep p.1 then p.2 else k) ws
      rw [e, hb]
      rfl
    · have e1 : (p.1 == b) = false := by simp [e]
      rw [List.filter_cons]
      simp only [e1, Bool.not_false, if_true]
      exact ih _
/-- a write of a bit: behind a fall it is there, or what was there without it -/
theorem settleK_write (keep b : Int) (k d : Blk) (ws : List Wr) : settleK keep k (ws.filter (fun p => !(p.1 == b)) ++ [(b, d)]) = if kb keep b then d else settleK keep k ws := by
  have h : settleK keep k (ws.filter (fun p => !(p.1 == b)) ++ [(b, d)]) = if kb keep b then d else settleK keep k (ws.filter (fun p => !(p.1 == b))) := by
    unfold settleK
    rw [List.foldl_append]
    rfl
  rw [h]
  by_cases hb : kb keep b = true
  · rw [if_pos hb, if_pos hb]
  · rw [if_neg hb, if_neg hb, settleK_drop keep b (by simpa using hb)]
theorem textS_write (k : Blk) (ws : List Wr) (b : Int) (d : Blk) (wv : Value) : textS ⟨k, ws ++ [(b, d)], wv⟩ = d := by
  unfold textS
  simp
/-- a text with noughts, either way -/
theorem pad_is (t : ByteArray) (ht : t.size ≤ 256) : strB (pad t ht) = .string (padT t) := by
  unfold strB pad padT noughtT
  congr 1
theorem zero_is : strB zeroB = .string (noughtT 256) := rfl
/-- what a fall leaves, step by step -/
theorem rk_next (keep : Int) (kl : List ByteArray) (tl : List Tn) (p : Tn) : rk keep kl (tl ++ [p]) (tl ++ [p]).length = if kb keep ((tl.length % 64 : Nat) : Int) then (rk keep kl tl tl.length).set p.1.toNat p.2 else rk keep kl tl tl.length := by
  have h1 : ∀ m, m ≤ tl.length → rk keep kl (tl ++ [p]) m = rk keep kl tl m := by
    intro m
    induction m with
    | zero => intro _; rfl
    | succ m ih =>
      intro hm
      have ih := ih (by omega)
      have e : (tl ++ [p])[m]? = tl[m]? := List.getElem?_append_left (by omega)
      unfold rk
      rw [e, ih]
  have e2 : (tl ++ [p]).length = tl.length + 1 := by simp
  rw [e2]
  conv => lhs; unfold rk
  rw [List.getElem?_append_right (Nat.le_refl _), Nat.sub_self, h1 tl.length (Nat.le_refl _)]
  rfl
end Go.Proofs.Ytjiopjdbifcfkac

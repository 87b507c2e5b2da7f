/- The contracts of comparing, and of the closure that panes' find hands to sort.Find, over this seat's translation. Conditions: as named. -/
import Derived.Test.YtoihjhhambgpfabPane3
namespace Go.Proofs.Ytoihjhhambgpfab
open Go.ChangeShapes Go.WideShapes Go.ChangeAt Go.RowKit
set_option linter.unusedVariables false
set_option linter.unusedSimpArgs false

theorem ret_int {k : IntKind} {a b : Int} (h : a = b) : Ending.returned (.int k a) = .returned (.int k b) := by rw [h]

/-- what cmp.Compare says of two numbers -/
def cmpI (a b : Int) : Int := if a < b then -1 else if b < a then 1 else 0
/-- what value.Compare says -/
def vcmp (k1 n1 k2 n2 : Int) : Int := if k1 = k2 then cmpI n1 n2 else cmpI k1 k2

theorem cmp_any (a b : Int) (w : World) :
    Calls Try.prog 71 #[.int .i64 a, .int .i64 b] w fun e w' => e = .returned (.int .i64 (cmpI a b)) ∧ w' = w := by
  by_cases h1 : a < b
  · go_enter Try.func71, Try.ntmps71
    go_wp2
    go_ret
    exact ⟨ret_int (by unfold cmpI; rw [if_pos h1]), rfl⟩
  · by_cases h2 : b < a
    · go_enter Try.func71, Try.ntmps71
      go_wp2
      go_ret
      exact ⟨ret_int (by unfold cmpI; rw [if_neg (by omega), if_pos h2]), rfl⟩
    · go_enter Try.func71, Try.ntmps71
      go_wp2
      go_ret
      exact ⟨ret_int (by unfold cmpI; rw [if_neg (by omega), if_neg (by omega)]), rfl⟩

theorem compare_any (k1 n1 k2 n2 : Int) (w : World) :
    Calls Try.prog 65 #[.agg #[.int .i64 k1, .int .i64 n1], .agg #[.int .i64 k2, .int .i64 n2]] w fun e w' => e = .returned (.int .i64 (vcmp k1 n1 k2 n2)) ∧ Below w.heap.size w w' := by
  by_cases h : k1 = k2
  · subst h
    have hb : (k1 != k1) = false := by simp
    go_enter Try.func65, Try.ntmps65
    go_wp2_with (go_at_call 71; refine (cmp_any _ _ _).mono ?_; rintro e w' ⟨rfl, rfl⟩)
    go_ret
    exact ⟨ret_int (by unfold vcmp; rw [if_pos rfl]), ((Below.refl _ _).alloc (Nat.le_refl _) _).alloc (by simp) _⟩
  · have hb : (k1 != k2) = true := by simp [h]
    go_enter Try.func65, Try.ntmps65
    go_wp2_with (go_at_call 71; refine (cmp_any _ _ _).mono ?_; rintro e w' ⟨rfl, rfl⟩)
    go_ret
    exact ⟨ret_int (by unfold vcmp; rw [if_neg h]), ((Below.refl _ _).alloc (Nat.le_refl _) _).alloc (by simp) _⟩

/-- what cmp.Or says of two -/
def orI (a b : Int) : Int := if a = 0 then b else a
theorem or_any (a b : Int) (g : Nat) (w : World) (x0 : w.cell? ⟨g, 0, none⟩ = some (.int .i64 a)) (x1 : w.cell? ⟨g, 1, none⟩ = some (.int .i64 b)) :
    Calls Try.prog 70 #[.slice (some ⟨g, 0, none⟩) 2 2] w fun e w' => e = .returned (.int .i64 (orI a b)) ∧ w' = w := by
  go_enter Try.func70, Try.ntmps70
  go_wp2_with fail
  go_loopw [8] (fun i wr => ∃ m : Nat, m ≤ 2 ∧ i = .int .i64 m ∧ (1 ≤ m → a = 0) ∧ (2 ≤ m → b = 0) ∧ wr = w) (fun i _ => 2 - (intOf i).toNat)
  case atStart => exact ⟨0, by omega, rfl, fun h => absurd h (by omega), fun h => absurd h (by omega), rfl⟩
  case round =>
    obtain ⟨m, hm, rfl, h1, h2, rfl⟩ := hrel
    rcases (by omega : m = 0 ∨ m = 1 ∨ m = 2) with rfl | rfl | rfl
    · by_cases ha : a = 0
      · subst ha
        go_wp2_with fail
        go_roundw
        case rel => exact ⟨1, by omega, by go_num, fun _ => (by first | rfl | trivial), fun h => absurd h (by omega), (by first | rfl | trivial)⟩
        case measure => simp [intOf]
      · have hb : (a != 0) = true := by simp [ha]
        go_wp2_with fail
        go_ret
        exact ⟨ret_int (by unfold orI; rw [if_neg ha]), rfl⟩
    · have ha := h1 (by omega)
      subst ha
      by_cases hbb : b = 0
      · subst hbb
        go_wp2_with fail
        go_roundw
        case rel => exact ⟨2, by omega, by go_num, fun _ => (by first | rfl | trivial), fun _ => (by first | rfl | trivial), (by first | rfl | trivial)⟩
        case measure => simp [intOf]
      · have hb : (b != 0) = true := by simp [hbb]
        go_wp2_with fail
        go_ret
        exact ⟨ret_int (by unfold orI; rw [if_pos rfl]), rfl⟩
    · have ha := h1 (by omega)
      have hb := h2 (by omega)
      subst ha hb
      go_wp2_with fail
      go_ret
      exact ⟨ret_int (by unfold orI; rw [if_pos rfl]), rfl⟩

/-- how a window and a key stand to a pane's -/
def pcmp (st k n : Int) (p : Pn) : Int := orI (cmpI st p.st) (vcmp k n p.k p.n)

set_option maxRecDepth 100000 in
set_option maxHeartbeats 2000000 in
theorem find1_any (i : Nat) (ps : List Pn) (ao : Option Addr) (cap : Nat) (st k n : Int) (bs bt bk : Nat) (w : World) (ht : w.cell? ⟨bt, 0, none⟩ = some (.slice ao ps.length cap)) (hs : w.cell? ⟨bs, 0, none⟩ = some (.int .i64 st))
    (hk0 : w.cell? ⟨bk, 0, none⟩ = some (.int .i64 k)) (hk1 : w.cell? ⟨bk, 1, none⟩ = some (.int .i64 n)) (lt : bt < w.heap.size) (ls : bs < w.heap.size) (lk : bk < w.heap.size)
    (hr : RowG w (.slice ao ps.length cap) 5 ps.length (rowOf cellsPn ps)) (hi : i < ps.length) (hl : ps.length ≤ 1000) :
    Calls Try.prog 69 #[.int .i64 i, .pointer (some ⟨bs, 0, none⟩), .pointer (some ⟨bt, 0, none⟩), .pointer (some ⟨bk, 0, none⟩)] w fun e w' => e = .returned (.int .i64 (pcmp st k n ps[i])) ∧ Below w.heap.size w w' := by
  obtain ⟨g, off, rfl, hcell, q1, q2, lg⟩ := rowOf_val cellsPn_len hr i hi
  generalize ps[i] = p at *
  obtain ⟨p1, p2, p3, p4, p5, p6⟩ := p
  have x0 : w.cell? ⟨g, off + i * 5, none⟩ = some (.int .i64 p1) := hcell 0 (by omega)
  have x1 : w.cell? ⟨g, off + i * 5 + 1, none⟩ = some (.int .i64 p2) := hcell 1 (by omega)
  have x2 : w.cell? ⟨g, off + i * 5 + 1 + 1, none⟩ = some (.int .i64 p3) := hcell 2 (by omega)
  unfold maxLen at q2
  unfold pcmp
  simp only
  clear hcell hr
  have hS : Below w.heap.size w { w with drawn := w.drawn + 1 } := (Below.refl _ _).drew
  go_enter Try.func69, Try.ntmps69
  go_wp2_with fail
  refine wp_region_last (Below w.heap.size w) 18 (by kernel_rfl) ?_
  generalize hwd : ({ w with drawn := w.drawn + 1 } : World) = wd at *
  clear hwd
  refine last_take (i := 0) (v := .int .i64 st) (L := #[true, false, false, false, false, false, false, false, false, false, false, false, false, false, false, false, false, false, false]) [7, 16, 17, 18] rfl (by kernel_rfl) (by kernel_rfl) (by kernel_rfl) (by kernel_rfl) (by kernel_rfl) (fun c a w h => h) (Or.inl ⟨by kernel_rfl, fun wq hq => by have q := hq.cell (p := ⟨bs, 0, none⟩) ls; rw [hs] at q; go_simp⟩) hS (by kernel_rfl) ?_
  refine last_take (i := 1) (v := .pointer (some ⟨bt, 0, none⟩)) (L := #[true, true, false, false, false, false, false, false, false, false, false, false, false, false, false, false, false, false, false]) [2, 4, 5, 6, 7, 16, 17, 18] rfl (by kernel_rfl) (by kernel_rfl) (by kernel_rfl) (by kernel_rfl) (by kernel_rfl) (fun c a w h => h) (Or.inl ⟨by kernel_rfl, fun wq hq => by go_simp⟩) hS (by kernel_rfl) ?_
  refine last_take (i := 2) (v := .slice (some ⟨g, off, none⟩) ps.length cap) (L := #[true, true, true, false, false, false, false, false, false, false, false, false, false, false, false, false, false, false, false]) [4, 5, 6, 7, 16, 17, 18] rfl (by kernel_rfl) (by kernel_rfl) (by kernel_rfl) (by kernel_rfl) (by kernel_rfl) (fun c a w h => h) (Or.inl ⟨by kernel_rfl, fun wq hq => by have q := hq.cell (p := ⟨bt, 0, none⟩) lt; rw [ht] at q; go_simp⟩) hS (by kernel_rfl) ?_
  refine last_take (i := 3) (v := .int .i64 (i : Int)) (L := #[true, true, true, true, false, false, false, false, false, false, false, false, false, false, false, false, false, false, false]) [4, 5, 6, 7, 16, 17, 18] rfl (by kernel_rfl) (by kernel_rfl) (by kernel_rfl) (by kernel_rfl) (by kernel_rfl) (fun c a w h => h) (Or.inl ⟨by kernel_rfl, fun wq hq => by go_simp⟩) hS (by kernel_rfl) ?_
  refine last_take (i := 4) (v := .pointer (some ⟨g, off + i * 5, none⟩)) (L := #[true, true, true, true, true, false, false, false, false, false, false, false, false, false, false, false, false, false, false]) [5, 6, 7, 16, 17, 18] rfl (by kernel_rfl) (by kernel_rfl) (by kernel_rfl) (by kernel_rfl) (by kernel_rfl) (fun c a w h => h) (Or.inl ⟨by kernel_rfl, fun wq hq => by go_simp⟩) hS (by kernel_rfl) ?_
  refine last_take (i := 5) (v := .pointer (some ⟨g, off + i * 5, none⟩)) (L := #[true, true, true, true, true, true, false, false, false, false, false, false, false, false, false, false, false, false, false]) [6, 7, 16, 17, 18] rfl (by kernel_rfl) (by kernel_rfl) (by kernel_rfl) (by kernel_rfl) (by kernel_rfl) (fun c a w h => h) (Or.inl ⟨by kernel_rfl, fun wq hq => by go_simp⟩) hS (by kernel_rfl) ?_
  refine last_take (i := 6) (v := .int .i64 p1) (L := #[true, true, true, true, true, true, true, false, false, false, false, false, false, false, false, false, false, false, false]) [7, 16, 17, 18] rfl (by kernel_rfl) (by kernel_rfl) (by kernel_rfl) (by kernel_rfl) (by kernel_rfl) (fun c a w h => h) (Or.inl ⟨by kernel_rfl, fun wq hq => by have q := hq.cell (p := ⟨g, off + i * 5, none⟩) lg; rw [x0] at q; go_simp⟩) hS (by kernel_rfl) ?_
  refine last_take (i := 9) (v := .pointer (some ⟨bt, 0, none⟩)) (L := #[true, true, true, true, true, true, true, false, false, true, false, false, false, false, false, false, false, false, false]) [10, 12, 13, 14, 15, 16, 17, 18] rfl (by kernel_rfl) (by kernel_rfl) (by kernel_rfl) (by kernel_rfl) (by kernel_rfl) (fun c a w h => h) (Or.inl ⟨by kernel_rfl, fun wq hq => by go_simp⟩) hS (by kernel_rfl) ?_
  refine last_take (i := 10) (v := .slice (some ⟨g, off, none⟩) ps.length cap) (L := #[true, true, true, true, true, true, true, false, false, true, true, false, false, false, false, false, false, false, false]) [12, 13, 14, 15, 16, 17, 18] rfl (by kernel_rfl) (by kernel_rfl) (by kernel_rfl) (by kernel_rfl) (by kernel_rfl) (fun c a w h => h) (Or.inl ⟨by kernel_rfl, fun wq hq => by have q := hq.cell (p := ⟨bt, 0, none⟩) lt; rw [ht] at q; go_simp⟩) hS (by kernel_rfl) ?_
  refine last_take (i := 11) (v := .int .i64 (i : Int)) (L := #[true, true, true, true, true, true, true, false, false, true, true, true, false, false, false, false, false, false, false]) [12, 13, 14, 15, 16, 17, 18] rfl (by kernel_rfl) (by kernel_rfl) (by kernel_rfl) (by kernel_rfl) (by kernel_rfl) (fun c a w h => h) (Or.inl ⟨by kernel_rfl, fun wq hq => by go_simp⟩) hS (by kernel_rfl) ?_
  refine last_take (i := 12) (v := .pointer (some ⟨g, off + i * 5, none⟩)) (L := #[true, true, true, true, true, true, true, false, false, true, true, true, true, false, false, false, false, false, false]) [13, 14, 15, 16, 17, 18] rfl (by kernel_rfl) (by kernel_rfl) (by kernel_rfl) (by kernel_rfl) (by kernel_rfl) (fun c a w h => h) (Or.inl ⟨by kernel_rfl, fun wq hq => by go_simp⟩) hS (by kernel_rfl) ?_
  refine last_take (i := 13) (v := .pointer (some ⟨g, off + i * 5 + 1, none⟩)) (L := #[true, true, true, true, true, true, true, false, false, true, true, true, true, true, false, false, false, false, false]) [14, 15, 16, 17, 18] rfl (by kernel_rfl) (by kernel_rfl) (by kernel_rfl) (by kernel_rfl) (by kernel_rfl) (fun c a w h => h) (Or.inl ⟨by kernel_rfl, fun wq hq => by go_simp⟩) hS (by kernel_rfl) ?_
  refine last_take (i := 14) (v := .agg #[.int .i64 p2, .int .i64 p3]) (L := #[true, true, true, true, true, true, true, false, false, true, true, true, true, true, true, false, false, false, false]) [15, 16, 17, 18] rfl (by kernel_rfl) (by kernel_rfl) (by kernel_rfl) (by kernel_rfl) (by kernel_rfl) (fun c a w h => h) (Or.inl ⟨by kernel_rfl, fun wq hq => by have q0 := hq.cell (p := ⟨g, off + i * 5 + 1, none⟩) lg; rw [x1] at q0; have q1 := hq.cell (p := ⟨g, off + i * 5 + 1 + 1, none⟩) lg; rw [x2] at q1; go_simp⟩) hS (by kernel_rfl) ?_
  refine last_take (i := 8) (v := .agg #[.int .i64 k, .int .i64 n]) (L := #[true, true, true, true, true, true, true, false, true, true, true, true, true, true, true, false, false, false, false]) [15, 16, 17, 18] rfl (by kernel_rfl) (by kernel_rfl) (by kernel_rfl) (by kernel_rfl) (by kernel_rfl) (fun c a w h => h) (Or.inl ⟨by kernel_rfl, fun wq hq => by have q0 := hq.cell (p := ⟨bk, 0, none⟩) lk; rw [hk0] at q0; have q1 := hq.cell (p := ⟨bk, 1, none⟩) lk; rw [hk1] at q1; go_simp⟩) hS (by kernel_rfl) ?_
  refine last_go (i := 7) (L := #[true, true, true, true, true, true, true, true, true, true, true, true, true, true, true, false, false, false, false]) (by kernel_rfl) rfl (by kernel_rfl) (by kernel_rfl) ?_
  intro K' hK
  go_simp
  refine (cmp_any _ _ _).mono ?_
  rintro e w2 ⟨rfl, rfl⟩
  refine hK _ _ ⟨fun _ => hS, ?_⟩
  clear hK
  refine last_go (i := 15) (L := #[true, true, true, true, true, true, true, true, true, true, true, true, true, true, true, true, false, false, false]) (by kernel_rfl) rfl (by kernel_rfl) (by kernel_rfl) ?_
  intro K' hK
  go_simp
  refine (compare_any _ _ _ _ _).mono ?_
  rintro e w2 ⟨rfl, hb⟩
  have hS2 : Below w.heap.size w w2 := hS.trans (hb.mono hS.size)
  refine hK _ _ ⟨fun _ => hS2, ?_⟩
  clear hK hb hS
  refine last_go (i := 16) (L := #[true, true, true, true, true, true, true, true, true, true, true, true, true, true, true, true, true, false, false]) (by kernel_rfl) rfl (by kernel_rfl) (by kernel_rfl) ?_
  intro K' hK
  have hS3 := hS2.alloc hS2.size (.cells #[.int .i64 (cmpI st p1), .int .i64 (vcmp k n p2 p3)] 3)
  have BX := blk_alloc w2 [.int .i64 (cmpI st p1), .int .i64 (vcmp k n p2 p3)] 3 (by simp)
  have c0 : (w2.alloc (.cells #[.int .i64 (cmpI st p1), .int .i64 (vcmp k n p2 p3)] 3)).cell? ⟨w2.heap.size, 0, none⟩ = some (.int .i64 (cmpI st p1)) := BX.c 0 (by simp)
  have c1 : (w2.alloc (.cells #[.int .i64 (cmpI st p1), .int .i64 (vcmp k n p2 p3)] 3)).cell? ⟨w2.heap.size, 1, none⟩ = some (.int .i64 (vcmp k n p2 p3)) := BX.c 1 (by simp)
  go_simp
  refine hK _ _ ⟨fun _ => hS3, ?_⟩
  clear hK BX hS2
  generalize hw3 : w2.alloc (.cells #[.int .i64 (cmpI st p1), .int .i64 (vcmp k n p2 p3)] 3) = w3 at *
  clear hw3
  generalize w2.heap.size = g3 at *
  clear w2
  refine last_go (i := 17) (L := #[true, true, true, true, true, true, true, true, true, true, true, true, true, true, true, true, true, true, false]) (by kernel_rfl) rfl (by kernel_rfl) (by kernel_rfl) ?_
  intro K' hK
  go_simp
  refine (or_any _ _ _ _ c0 c1).mono ?_
  rintro e w4 ⟨rfl, rfl⟩
  refine hK _ _ ⟨fun _ => hS3, ?_⟩
  clear hK
  refine last_go (i := 18) (L := #[true, true, true, true, true, true, true, true, true, true, true, true, true, true, true, true, true, true, true]) (by kernel_rfl) rfl (by kernel_rfl) (by kernel_rfl) ?_
  intro K' hK
  go_simp
  refine hK _ _ ⟨fun _ => hS3, ?_⟩
  clear hK
  refine last_done (by kernel_rfl) ?_ _
  go_wp2_with fail
  go_ret
  exact ⟨rfl, hS3⟩
end Go.Proofs.Ytoihjhhambgpfab

/- Panes in memory; the contracts of slices.Clone of what is gathered and of panes, and of a pane's own, ends, over this seat's translation. Conditions: as named. -/
import Derived.Test.YtoihjhhambgpfabTab
import Derived.Test.YtoihjhhambgpfabGather1
import Derived.OneCell
namespace Go.Proofs.Ytoihjhhambgpfab
open Go.ChangeShapes Go.WideShapes Go.ChangeAt Go.RowKit
set_option linter.unusedVariables false
set_option linter.unusedSimpArgs false

/-- a slice that holds these cells, or nil -/
def RowS (w : World) (v : Value) (size n : Nat) (xs : List Value) : Prop :=
  xs.length = n * size ∧ ((v = .slice none 0 0 ∧ n = 0) ∨ ∃ g off cap, v = .slice (some ⟨g, off, none⟩) n cap ∧ n ≤ cap ∧ cap ≤ maxLen ∧ g < w.heap.size ∧ ∀ j, j < n * size → w.cell? ⟨g, off + j, none⟩ = xs[j]?)
theorem rowS_of_owns {w : World} {base size n : Nat} {e : TypeId} {v : Value} {xs : List Value} (h : w.ownsRow base e size v n xs) : RowS w v size n xs := by
  obtain ⟨h0, h1⟩ := h
  refine ⟨h0, ?_⟩
  rcases h1 with ⟨rfl, hn⟩ | ⟨g, cap, cur, rfl, hb, hg, hle, hm, hs, ht⟩
  · exact .inl ⟨rfl, hn⟩
  · have hsz : g < w.heap.size := (Array.getElem?_eq_some_iff.1 hg).1
    refine .inr ⟨g, 0, cap, rfl, hle, hm, hsz, fun i hi => ?_⟩
    have hc := World.ownsRow.cellAt (w := w) (base := base) (e := e) (size := size) (g := g) (n := n) (cap := cap) ⟨h0, .inr ⟨g, cap, cur, rfl, hb, hg, hle, hm, hs, ht⟩⟩ i hi
    rw [Nat.zero_add, hc]
theorem rowS_below {w w' : World} {size n : Nat} {v : Value} {xs : List Value} (h : RowS w v size n xs) (hb : Below w.heap.size w w') : RowS w' v size n xs := by
  obtain ⟨h0, h⟩ := h
  refine ⟨h0, ?_⟩
  rcases h with h | ⟨g, off, cap, h1, h2, h3, h4, h5⟩
  · exact .inl h
  · exact .inr ⟨g, off, cap, h1, h2, h3, Nat.lt_of_lt_of_le h4 hb.size, fun i hi => by rw [hb.cell (p := ⟨g, off + i, none⟩) h4]; exact h5 i hi⟩
theorem rowG_of_S {w : World} {size n : Nat} {v : Value} {xs : List Value} (h : RowS w v size n xs) : RowG w v size n xs := by
  obtain ⟨h0, h⟩ := h
  refine ⟨h0, ?_⟩
  rcases h with ⟨h1, h2⟩ | h
  · exact .inl ⟨⟨_, _, h1⟩, h2⟩
  · exact .inr h
theorem rowS_shape {w : World} {size n : Nat} {v : Value} {xs : List Value} (h : RowS w v size n xs) : ∃ ao cap, v = .slice ao n cap := rowG_shape (rowG_of_S h)

theorem blk_alloc (w : World) (cs : List Value) (e : TypeId) (h : cs.length ≤ 1000) : BlkAt (w.alloc (.cells cs.toArray e)) w.heap.size cs := by
  have ho := World.ownsRow_lit (base := 0) (size := 1) (e := e) w cs.toArray cs.length (Nat.zero_le _) (by show _ ≤ 2 ^ 63 - 1; omega) (by simp)
  refine ⟨fun j hj => ?_, fun o => by go_simp, by simp⟩
  simp

/-- what is gathered -/
structure Ac where
  (k n s b : Int)
def cellsA (a : Ac) : List Value := [.int .i64 a.k, .int .i64 a.n, .int .i64 a.s, .int .i64 a.b]
def aggC (a : Ac) : Value := .agg #[.int .i64 a.k, .int .i64 a.n, .int .i64 a.s, .int .i64 a.b]
theorem cellsA_len (a : Ac) : (cellsA a).length = 4 := rfl
/-- a pane, and the slice of what is gathered in it -/
structure Pn where
  (st k n : Int)
  told : Bool
  ac : List Ac
  av : Value
def cellsPn (p : Pn) : List Value := [.int .i64 p.st, .int .i64 p.k, .int .i64 p.n, p.av, .bool p.told]
def aggP (p : Pn) : Value := .agg #[.int .i64 p.st, .int .i64 p.k, .int .i64 p.n, p.av, .bool p.told]
theorem cellsPn_len (p : Pn) : (cellsPn p).length = 5 := rfl
def AccR (w : World) (p : Pn) : Prop := RowS w p.av 4 p.ac.length (rowOf cellsA p.ac)
theorem accR_below {w w' : World} {p : Pn} (h : AccR w p) (hb : Below w.heap.size w w') : AccR w' p := rowS_below h hb
/-- a table -/
structure TblR (w : World) (v : Value) (ps : List Pn) : Prop where
  row : RowS w v 5 ps.length (rowOf cellsPn ps)
  acc : ∀ p ∈ ps, AccR w p
theorem tblR_below {w w' : World} {v : Value} {ps : List Pn} (h : TblR w v ps) (hb : Below w.heap.size w w') : TblR w' v ps := ⟨rowS_below h.row hb, fun p hp => accR_below (h.acc p hp) hb⟩

theorem infoA : (Try.prog.info? 55).map (fun i => (i.zero, i.size, i.bytes)) = some (some (.agg #[.int .i64 0, .int .i64 0, .int .i64 0, .int .i64 0]), 4, 32) := by kernel_rfl
theorem infoP : (Try.prog.info? 94).map (fun i => (i.zero, i.size, i.bytes)) = some (some (.agg #[.int .i64 0, .int .i64 0, .int .i64 0, .slice none 0 0, .bool false]), 5, 56) := by kernel_rfl
theorem eql_accs_nil (w : World) (a : Addr) (n c : Nat) : (binOp .eql 92 (.slice (some a) n c) (.slice none 0 0)).run Try.prog w = .ok (.bool false) w := by kernel_rfl
theorem eql_accs_nil2 (w : World) : (binOp .eql 92 (.slice none 0 0) (.slice none 0 0)).run Try.prog w = .ok (.bool true) w := by kernel_rfl
theorem eql_panes_nil (w : World) (a : Addr) (n c : Nat) : (binOp .eql 84 (.slice (some a) n c) (.slice none 0 0)).run Try.prog w = .ok (.bool false) w := by kernel_rfl
theorem eql_panes_nil2 (w : World) : (binOp .eql 84 (.slice none 0 0) (.slice none 0 0)).run Try.prog w = .ok (.bool true) w := by kernel_rfl
theorem cellsA_one : ∀ (r : List Ac), ∀ u ∈ rowOf cellsA r, u.oneCell' = true := by
  intro r u hu
  unfold rowOf at hu
  rw [List.mem_flatMap] at hu
  obtain ⟨e, -, h⟩ := hu
  simp only [cellsA, List.mem_cons, List.not_mem_nil, or_false] at h
  rcases h with rfl | rfl | rfl | rfl <;> rfl
theorem cellsPn_one {ps : List Pn} (hs : ∀ p ∈ ps, ∃ ao n cap, p.av = .slice ao n cap) : ∀ u ∈ rowOf cellsPn ps, u.oneCell' = true := by
  intro u hu
  unfold rowOf at hu
  rw [List.mem_flatMap] at hu
  obtain ⟨e, he, h⟩ := hu
  obtain ⟨ao, n, cap, hav⟩ := hs e he
  simp only [cellsPn, List.mem_cons, List.not_mem_nil, or_false, hav] at h
  rcases h with rfl | rfl | rfl | rfl | rfl <;> rfl
theorem tbl_slices {w : World} {v : Value} {ps : List Pn} (h : TblR w v ps) : ∀ p ∈ ps, ∃ ao n cap, p.av = .slice ao n cap := fun p hp => by
  obtain ⟨ao, cap, e⟩ := rowS_shape (h.acc p hp)
  exact ⟨ao, _, cap, e⟩

set_option maxRecDepth 100000 in
theorem cloneA_any (r : List Ac) (v : Value) (w : World) (hl : r.length ≤ 1000) (hr : RowS w v 4 r.length (rowOf cellsA r)) :
    Calls Try.prog 73 #[v] w fun e w' => ∃ u, e = .returned u ∧ w'.ownsRow w.heap.size 55 4 u r.length (rowOf cellsA r) ∧ Below w.heap.size w w' := by
  obtain ⟨i0, hi, hz0, hz1, hz2⟩ := info_parts infoA
  obtain ⟨h0, h1⟩ := hr
  rcases h1 with ⟨rfl, hn⟩ | ⟨g, off, cap, rfl, hle, hm, hgl, hcell⟩
  · have en := eql_accs_nil2
    go_enter Try.func73, Try.ntmps73
    go_wp2_with fail
    go_ret
    have : r = [] := List.eq_nil_of_length_eq_zero hn
    subst this
    exact ⟨_, rfl, World.ownsRow_nil _ _ _ _, Below.refl _ _⟩
  · have HC := hidE hcell
    clear hcell h0
    unfold maxLen at hm
    have en := fun w => eql_accs_nil w ⟨g, off, none⟩ r.length cap
    have HO : Hid ((w.alloc (.cells #[] 55)).ownsRow w.heap.size 55 4 (.slice (some ⟨w.heap.size, 0, none⟩) 0 0) 0 []) := by
      have h := World.ownsRow_lit (base := w.heap.size) (size := 4) (e := 55) w #[] 0 (Nat.le_refl _) (by decide) rfl
      exact hidE (by simpa using h)
    have HN : Hid (∀ j u, (rowOf cellsA r)[j]? = some u → (w.alloc (.cells #[] 55)).cell? ((⟨g, off, none⟩ : Addr).add j) = some u) := fun j u hu => by
      have hj : j < r.length * 4 := by
        have := (List.getElem?_eq_some_iff.1 hu).1
        rw [rowOf_len cellsA_len] at this
        exact this
      have h2 : (w.alloc (.cells #[] 55)).cell? ⟨g, off + j, none⟩ = w.cell? ⟨g, off + j, none⟩ := World.cell?_alloc_lt _ _ _ (by exact hgl)
      have h3 : (⟨g, off, none⟩ : Addr).add j = ⟨g, off + j, none⟩ := by simp [Addr.add]
      rw [h3, h2, HC.out j hj, hu]
    have HL := hidE (rowOf_len cellsA_len r)
    have HOC := hidE (cellsA_one r)
    go_enter Try.func73, Try.ntmps73
    go_wp2_with (at_builtin; go_must (refine wpList_append_own _ rfl (.tmp 5) (.tmp 6) 92 rfl w.heap.size 55 i0 (.agg #[.int .i64 0, .int .i64 0, .int .i64 0, .int .i64 0]) 4 32 Try.underlying92 hi hz0 hz1 hz2 rfl (by decide) _ _ _ rfl HO.out ⟨g, off, none⟩ r.length cap (rowOf cellsA r) rfl HL.out HN.out HOC.out (by show _ ≤ 2 ^ 63 - 1; omega) (by omega) (by simp) ?_))
    intro v' w3 ho3 hg3 _
    have ho4 : w3.ownsRow w.heap.size 55 4 v' r.length (rowOf cellsA r) := by simpa using ho3
    have HO3 := hidE ho4
    have HB3 : Hid (Below w.heap.size w w3) := ((Below.refl _ _).alloc (Nat.le_refl _) _).grown hg3 (by simp) (fun k hk => by have := (HO.out.lt k hk).1; omega)
    clear ho3 hg3 ho4
    obtain ⟨ao3, cap3, rfl⟩ := owns_shapeE HO3.out
    go_wp2_with fail
    go_ret
    exact ⟨_, rfl, HO3.out, HB3.out⟩

set_option maxRecDepth 100000 in
theorem cloneP_any (ps : List Pn) (v : Value) (w : World) (hl : ps.length ≤ 1000) (hr : TblR w v ps) :
    Calls Try.prog 61 #[v] w fun e w' => ∃ u, e = .returned u ∧ w'.ownsRow w.heap.size 94 5 u ps.length (rowOf cellsPn ps) ∧ Below w.heap.size w w' := by
  obtain ⟨i0, hi, hz0, hz1, hz2⟩ := info_parts infoP
  have HOC := hidE (cellsPn_one (tbl_slices hr))
  obtain ⟨h0, h1⟩ := hr.row
  clear hr
  rcases h1 with ⟨rfl, hn⟩ | ⟨g, off, cap, rfl, hle, hm, hgl, hcell⟩
  · have en := eql_panes_nil2
    go_enter Try.func61, Try.ntmps61
    go_wp2_with fail
    go_ret
    have : ps = [] := List.eq_nil_of_length_eq_zero hn
    subst this
    exact ⟨_, rfl, World.ownsRow_nil _ _ _ _, Below.refl _ _⟩
  · have HC := hidE hcell
    clear hcell h0
    unfold maxLen at hm
    have en := fun w => eql_panes_nil w ⟨g, off, none⟩ ps.length cap
    have HO : Hid ((w.alloc (.cells #[] 94)).ownsRow w.heap.size 94 5 (.slice (some ⟨w.heap.size, 0, none⟩) 0 0) 0 []) := by
      have h := World.ownsRow_lit (base := w.heap.size) (size := 5) (e := 94) w #[] 0 (Nat.le_refl _) (by decide) rfl
      exact hidE (by simpa using h)
    have HN : Hid (∀ j u, (rowOf cellsPn ps)[j]? = some u → (w.alloc (.cells #[] 94)).cell? ((⟨g, off, none⟩ : Addr).add j) = some u) := fun j u hu => by
      have hj : j < ps.length * 5 := by
        have := (List.getElem?_eq_some_iff.1 hu).1
        rw [rowOf_len cellsPn_len] at this
        exact this
      have h2 : (w.alloc (.cells #[] 94)).cell? ⟨g, off + j, none⟩ = w.cell? ⟨g, off + j, none⟩ := World.cell?_alloc_lt _ _ _ (by exact hgl)
      have h3 : (⟨g, off, none⟩ : Addr).add j = ⟨g, off + j, none⟩ := by simp [Addr.add]
      rw [h3, h2, HC.out j hj, hu]
    have HL := hidE (rowOf_len cellsPn_len ps)
    go_enter Try.func61, Try.ntmps61
    go_wp2_with (at_builtin; go_must (refine wpList_append_own _ rfl (.tmp 5) (.tmp 6) 84 rfl w.heap.size 94 i0 (.agg #[.int .i64 0, .int .i64 0, .int .i64 0, .slice none 0 0, .bool false]) 5 56 Try.underlying84 hi hz0 hz1 hz2 rfl (by decide) _ _ _ rfl HO.out ⟨g, off, none⟩ ps.length cap (rowOf cellsPn ps) rfl HL.out HN.out HOC.out (by show _ ≤ 2 ^ 63 - 1; omega) (by omega) (by simp) ?_))
    intro v' w3 ho3 hg3 _
    have ho4 : w3.ownsRow w.heap.size 94 5 v' ps.length (rowOf cellsPn ps) := by simpa using ho3
    have HO3 := hidE ho4
    have HB3 : Hid (Below w.heap.size w w3) := ((Below.refl _ _).alloc (Nat.le_refl _) _).grown hg3 (by simp) (fun k hk => by have := (HO.out.lt k hk).1; omega)
    clear ho3 hg3 ho4
    obtain ⟨ao3, cap3, rfl⟩ := owns_shapeE HO3.out
    go_wp2_with fail
    go_ret
    exact ⟨_, rfl, HO3.out, HB3.out⟩

set_option maxRecDepth 100000 in
set_option maxHeartbeats 1000000 in
theorem own_any (p : Pn) (w : World) (hl : p.ac.length ≤ 1000) (hr : AccR w p) :
    Calls Try.prog 62 #[aggP p] w fun e w' => ∃ u, e = .returned (aggP { p with av := u }) ∧ w'.ownsRow w.heap.size 55 4 u p.ac.length (rowOf cellsA p.ac) ∧ Below w.heap.size w w' := by
  obtain ⟨st, k, n, told, ac, av⟩ := p
  obtain ⟨ao, cap, hav⟩ := rowS_shape hr
  simp only at hav
  subst hav
  have hA : Below w.heap.size w ((w.alloc (.cells #[.int .i64 st, .int .i64 k, .int .i64 n, .slice ao ac.length cap, .bool told] 94)).alloc (.cells #[.int .i64 0, .int .i64 0, .int .i64 0, .slice none 0 0, .bool false] 94)) := ((Below.refl _ _).alloc (Nat.le_refl _) _).alloc (by simp) _
  have CA := hidE (cloneA_any ac _ _ hl (rowS_below hr hA))
  have HB := hidE hA
  unfold aggP
  simp only
  clear hA hr
  go_enter Try.func62, Try.ntmps62
  go_wp2_with fail
  refine CA.out.mono ?_
  rintro e w1 ⟨u, rfl, ho, hb⟩
  have hsz : ((w.alloc (.cells #[.int .i64 st, .int .i64 k, .int .i64 n, .slice ao ac.length cap, .bool told] 94)).alloc (.cells #[.int .i64 0, .int .i64 0, .int .i64 0, .slice none 0 0, .bool false] 94)).heap.size = w.heap.size + 2 := by simp
  obtain ⟨ao3, cap3, rfl⟩ := owns_shapeE ho
  have ne0 : (Value.slice ao3 ac.length cap3).ownBlock ≠ some w.heap.size := fun e => by have := (own_at ho _ e).1; omega
  have ne1 : (Value.slice ao3 ac.length cap3).ownBlock ≠ some (w.heap.size + 1) := fun e => by have := (own_at ho _ e).1; omega
  have HO := hidE (owns_baseG (base' := w.heap.size) ho (by omega))
  have HBA := nxt HB hb
  have B0 := blk_below (blk_below (blk_alloc w [.int .i64 st, .int .i64 k, .int .i64 n, .slice ao ac.length cap, .bool told] 94 (by simp)) ((Below.refl _ _).alloc (Nat.le_refl _) (.cells #[.int .i64 0, .int .i64 0, .int .i64 0, .slice none 0 0, .bool false] 94)) (by simp)) hb (by simp; omega)
  have B1 := blk_below (blk_alloc (w.alloc (.cells #[.int .i64 st, .int .i64 k, .int .i64 n, .slice ao ac.length cap, .bool told] 94)) [.int .i64 0, .int .i64 0, .int .i64 0, .slice none 0 0, .bool false] 94 (by simp)) hb (by simp)
  have hw1 : (w.alloc (.cells #[.int .i64 st, .int .i64 k, .int .i64 n, .slice ao ac.length cap, .bool told] 94)).heap.size = w.heap.size + 1 := by simp
  rw [hw1] at B1
  have S0 := blk_set B0 3 (.slice ao3 ac.length cap3) (by simp)
  have S1 := blk_far B1 (g' := w.heap.size) (by omega) 3 (.slice ao3 ac.length cap3)
  have d0 : w1.cell? ⟨w.heap.size, 3, none⟩ = some (.slice ao ac.length cap) := B0.c 3 (by simp)
  have f0 := B0.fz 3
  have e0 : (w1.setCell ⟨w.heap.size, 3, none⟩ (.slice ao3 ac.length cap3)).cell? ⟨w.heap.size, 0, none⟩ = some (.int .i64 st) := S0.c 0 (by simp)
  have e1 : (w1.setCell ⟨w.heap.size, 3, none⟩ (.slice ao3 ac.length cap3)).cell? ⟨w.heap.size, 1, none⟩ = some (.int .i64 k) := S0.c 1 (by simp)
  have e2 : (w1.setCell ⟨w.heap.size, 3, none⟩ (.slice ao3 ac.length cap3)).cell? ⟨w.heap.size, 2, none⟩ = some (.int .i64 n) := S0.c 2 (by simp)
  have e3 : (w1.setCell ⟨w.heap.size, 3, none⟩ (.slice ao3 ac.length cap3)).cell? ⟨w.heap.size, 3, none⟩ = some (.slice ao3 ac.length cap3) := S0.c 3 (by simp)
  have e4 : (w1.setCell ⟨w.heap.size, 3, none⟩ (.slice ao3 ac.length cap3)).cell? ⟨w.heap.size, 4, none⟩ = some (.bool told) := S0.c 4 (by simp)
  have g0 : (w1.setCell ⟨w.heap.size, 3, none⟩ (.slice ao3 ac.length cap3)).cell? ⟨w.heap.size + 1, 0, none⟩ = some (.int .i64 0) := S1.c 0 (by simp)
  have g1 : (w1.setCell ⟨w.heap.size, 3, none⟩ (.slice ao3 ac.length cap3)).cell? ⟨w.heap.size + 1, 1, none⟩ = some (.int .i64 0) := S1.c 1 (by simp)
  have g2 : (w1.setCell ⟨w.heap.size, 3, none⟩ (.slice ao3 ac.length cap3)).cell? ⟨w.heap.size + 1, 2, none⟩ = some (.int .i64 0) := S1.c 2 (by simp)
  have g3 : (w1.setCell ⟨w.heap.size, 3, none⟩ (.slice ao3 ac.length cap3)).cell? ⟨w.heap.size + 1, 3, none⟩ = some (.slice none 0 0) := S1.c 3 (by simp)
  have g4 : (w1.setCell ⟨w.heap.size, 3, none⟩ (.slice ao3 ac.length cap3)).cell? ⟨w.heap.size + 1, 4, none⟩ = some (.bool false) := S1.c 4 (by simp)
  have z := S1.fz
  have z0 := z 0
  have z1 := z 1
  have z2 := z 2
  have z3 := z 3
  have z4 := z 4
  have NE := hidE (And.intro ne0 ne1)
  have FIN := hidE (ownsRow_setCell_other HO.out (a := ⟨w.heap.size, 3, none⟩) ne0 (.slice ao3 ac.length cap3))
  have HBF := hidE (HBA.out.setCell (p := ⟨w.heap.size, 3, none⟩) (Nat.le_refl _) (.slice ao3 ac.length cap3))
  clear ho hb hsz ne0 ne1 B0 B1 hw1 S0 S1 z HBA HO
  go_wp2_with fail
  refine bodyPost_ret (v := .agg #[.int .i64 st, .int .i64 k, .int .i64 n, .slice ao3 ac.length cap3, .bool told]) (by simp [results, Try.results62, go_sem, g0, g1, g2, g3, g4]) rfl ⟨.slice ao3 ac.length cap3, rfl, ?_, ?_⟩
  · iterate 5 (refine ownsRow_setCell_other ?_ NE.out.2 _)
    exact FIN.out
  · iterate 5 (refine Below.setCell ?_ (by first | (simp; done) | (simp; omega)) _)
    exact HBF.out

theorem ends_any (p : Pn) (size upto : Int) (w : World) (h1 : -100000 ≤ p.st) (h2 : p.st ≤ 100000) (h3 : 1 ≤ size) (h4 : size ≤ 100000) (hs : ∃ ao n cap, p.av = .slice ao n cap) :
    Calls Try.prog 64 #[aggP p, .int .i64 size, .int .i64 upto] w fun e w' => e = .returned (.bool (decide (p.st + size ≤ upto))) ∧ Below w.heap.size w w' := by
  obtain ⟨st, k, n, told, ac, av⟩ := p
  obtain ⟨ao, m, cap, rfl⟩ := hs
  unfold aggP
  simp only at h1 h2 ⊢
  have d1 : decide (0 < size) = true := by simp; omega
  have d2 : decide (st + size < st) = false := by simp; omega
  have d3 : decide (size < 0) = false := by simp; omega
  generalize hr : decide (st + size ≤ upto) = r
  go_enter Try.func64, Try.ntmps64
  go_wp2_with fail
  go_ret
  exact ⟨rfl, (Below.refl _ _).alloc (Nat.le_refl _) _⟩
end Go.Proofs.Ytoihjhhambgpfab

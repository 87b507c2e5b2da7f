/- The contract of penstockref.valueAt and Eval, over this seat's translation: the value of a node of an expression that may be. Conditions: the nodes and the event may be. -/
import Derived.Test.YtepfpmagppckeaaTopJ
import Derived.Test.YtepfpmagppckeaaRefDo
namespace Go.Proofs.Ytepfpmagppckeaa
open Go.ChangeShapes Go.WideShapes Go.ChangeAt Go.RowKit
set_option linter.unusedVariables false
set_option linter.unusedSimpArgs false

theorem evF_pre (O : Int → V2 → V2 → V2) (ev : List V2) : ∀ (l : List Nd) (vs : List V2), (evF O ev l vs).take vs.length = vs
  | [], vs => by simp [evF]
  | n :: l, vs => by
    have h := evF_pre O ev l (vs ++ [evN O ev n vs])
    simp only [evF]
    have h2 : ((evF O ev l (vs ++ [evN O ev n vs])).take (vs ++ [evN O ev n vs]).length).take vs.length = (vs ++ [evN O ev n vs]).take vs.length := by rw [h]
    rw [List.take_take, Nat.min_eq_left (by simp)] at h2
    simpa using h2
/-- the value at a node, by those ahead of it -/
theorem evF_at (O : Int → V2 → V2 → V2) (ev : List V2) (l : List Nd) (i : Nat) (n : Nd) (h : l[i]? = some n) : (evF O ev l [])[i]? = some (evN O ev n ((evF O ev l []).take i)) := by
  have hi := (List.getElem?_eq_some_iff.1 h).1
  have hsp : l = l.take i ++ n :: l.drop (i + 1) := by
    have h1 : n = l[i] := (List.getElem?_eq_some_iff.1 h).2.symm
    rw [h1, ← List.drop_eq_getElem_cons hi, List.take_append_drop]
  have hlen : (evF O ev (l.take i) []).length = i := by rw [evF_len]; simp; omega
  have e1 : evF O ev l [] = evF O ev (l.drop (i + 1)) (evF O ev (l.take i) [] ++ [evN O ev n (evF O ev (l.take i) [])]) := by
    conv => lhs; rw [hsp]
    rw [evF_app]
    rfl
  have h2 := evF_pre O ev (l.drop (i + 1)) (evF O ev (l.take i) [] ++ [evN O ev n (evF O ev (l.take i) [])])
  rw [← e1] at h2
  rw [List.length_append, hlen, List.length_singleton] at h2
  have h3 : (evF O ev l []).take i = evF O ev (l.take i) [] := by
    have : ((evF O ev l []).take (i + 1)).take i = (evF O ev (l.take i) [] ++ [evN O ev n (evF O ev (l.take i) [])]).take i := by rw [h2]
    rw [List.take_take, Nat.min_eq_left (by omega), List.take_left' hlen] at this
    exact this
  rw [h3]
  have h4 : ((evF O ev l []).take (i + 1))[i]? = some (evN O ev n (evF O ev (l.take i) [])) := by
    rw [h2, List.getElem?_append_right (by omega), hlen]
    simp
  rwa [List.getElem?_take_of_lt (by omega)] at h4
theorem nth_take (vs : List V2) (i : Nat) (x : Int) (h0 : 0 ≤ x) (h1 : x < i) (h2 : i ≤ vs.length) : nth (vs.take i) x = nth vs x := by
  unfold nth
  rw [if_neg (by simp; omega), if_neg (by omega), List.getD_eq_getElem?_getD, List.getD_eq_getElem?_getD, List.getElem?_take_of_lt (by omega)]

/-- what a node's value is -/
def vAt (ev : List V2) (l : List Nd) (i : Int) : V2 := nth (evF opV ev l []) i
theorem vAt_eq {ev : List V2} {l : List Nd} {bs : List Nat} (hg : Good l bs) {i : Nat} {n : Nd} (h : l[i]? = some n) :
    vAt ev l (i : Int) = if n.op = 1 then (n.k, n.v) else if n.op = 2 then nth ev n.n else if ar n.op = 1 then opV n.op (vAt ev l n.x) (0, 0) else opV n.op (vAt ev l n.x) (vAt ev l n.y) := by
  have hi := (List.getElem?_eq_some_iff.1 h).1
  have hlen : (evF opV ev l []).length = l.length := by rw [evF_len]; simp
  obtain ⟨p1, p2⟩ := good_part hg h
  obtain ⟨-, a0, -⟩ := good_at hg h
  have hle := ar_le n.op
  unfold vAt
  rw [nth_in _ i (by omega)]
  have h1 := evF_at opV ev l i n h
  rw [(List.getElem?_eq_some_iff.1 h1).2]
  unfold evN
  by_cases h1 : n.op = 1
  · rw [if_pos h1, if_pos h1]
  rw [if_neg h1, if_neg h1]
  by_cases h2 : n.op = 2
  · rw [if_pos h2, if_pos h2]
  rw [if_neg h2, if_neg h2]
  have ha : 1 ≤ ar n.op := by
    rcases (by omega : ar n.op = 0 ∨ 1 ≤ ar n.op) with q | q
    · unfold ar at q
      rw [if_neg (by omega)] at q
      repeat' split at q
      all_goals omega
    · exact q
  have hx := p1 ha
  rw [nth_take _ i n.x hx.1 hx.2.1 (by omega)]
  by_cases h3 : ar n.op = 1
  · rw [if_pos h3, if_pos h3]
  · rw [if_neg h3, if_neg h3]
    have hy := p2 (by omega)
    rw [nth_take _ i n.y (by omega) (by omega) (by omega)]

theorem nxtE {W0 wx wy : World} {o : Obj} (h : Hid (Below W0.heap.size W0 wx)) (hb : Below (wx.alloc o).heap.size (wx.alloc o) wy) : Hid (Below W0.heap.size W0 wy) := nxt (nxta h o) hb

set_option maxRecDepth 100000 in
set_option maxHeartbeats 2000000 in
theorem rva_1 (l : List Nd) (ao : Option Addr) (cap : Nat) (i : Nat) (k v t k1 k2 a1 a2 b1 b2 : Int) (w : World) (hl : l.length ≤ 1000) (hi : i < l.length)
    (hr : RowG w (.slice ao l.length cap) 6 l.length (rowN l)) (hn : l[i]? = some ⟨1, 0, 0, 0, k, v⟩) :
    Calls Try.prog 50 #[.slice ao l.length cap, .int .i64 (i : Int), aggE t k1 k2 a1 a2 b1 b2] w fun e w' => e = .returned (.agg #[.int .i64 k, .int .i64 v]) ∧ Below w.heap.size w w' := by
  obtain ⟨g, off, rfl, hnode, l1, l2, l3⟩ := rowN_node hr i hi
  rw [(List.getElem?_eq_some_iff.1 hn).2] at hnode
  obtain ⟨n0, n1, n2, n3, n4, n5⟩ := hnode
  simp only at n0 n1 n2 n3 n4 n5
  have HW := hidE (w3_below w (.cells #[.int .i64 t, .int .i64 k1, .int .i64 k2, .int .i64 a1, .int .i64 a2, .int .i64 b1, .int .i64 b2] 37) (.cells #[.int .i64 0, .int .i64 0] 35) (.cells #[.int .i64 1, .int .i64 0, .int .i64 0, .int .i64 0, .int .i64 k, .int .i64 v] 50))
  have HR := hidE hr
  clear hr hn
  unfold maxLen at l2
  unfold aggE
  go_enter Try.func50, Try.ntmps50
  go_wp2_with fail
  exact bodyPost_ret (v := .agg #[.int .i64 k, .int .i64 v]) (by simp [results, Try.results50, go_sem]) rfl ⟨rfl, w3_below w _ _ _⟩

set_option maxRecDepth 100000 in
set_option maxHeartbeats 2000000 in
theorem rva_3y (l : List Nd) (ao : Option Addr) (cap : Nat) (i : Nat) (x x1 x2 t k1 k2 a1 a2 b1 b2 : Int) (w : World) (hl : l.length ≤ 1000) (hi : i < l.length)
    (hr : RowG w (.slice ao l.length cap) 6 l.length (rowN l)) (hn : l[i]? = some ⟨3, x, 0, 0, 0, 0⟩) (hk : (x1 == 1) = true) (b1' : -1000000000 ≤ x2) (b2' : x2 ≤ 1000000000) (CX : ∀ w, RowG w (.slice ao l.length cap) 6 l.length (rowN l) → Calls Try.prog 50 #[.slice ao l.length cap, .int .i64 x, aggE t k1 k2 a1 a2 b1 b2] w fun e w' => e = .returned (.agg #[.int .i64 x1, .int .i64 x2]) ∧ Below w.heap.size w w') :
    Calls Try.prog 50 #[.slice ao l.length cap, .int .i64 (i : Int), aggE t k1 k2 a1 a2 b1 b2] w fun e w' => e = .returned (.agg #[.int .i64 (numK (-x2)), .int .i64 (numN (-x2))]) ∧ Below w.heap.size w w' := by
  obtain ⟨g, off, rfl, hnode, l1, l2, l3⟩ := rowN_node hr i hi
  rw [(List.getElem?_eq_some_iff.1 hn).2] at hnode
  obtain ⟨n0, n1, n2, n3, n4, n5⟩ := hnode
  simp only at n0 n1 n2 n3 n4 n5
  have HW := hidE (w3_below w (.cells #[.int .i64 t, .int .i64 k1, .int .i64 k2, .int .i64 a1, .int .i64 a2, .int .i64 b1, .int .i64 b2] 37) (.cells #[.int .i64 0, .int .i64 0] 35) (.cells #[.int .i64 3, .int .i64 x, .int .i64 0, .int .i64 0, .int .i64 0, .int .i64 0] 50))
  have HCX := hidE (CX (((w.alloc (.cells #[.int .i64 t, .int .i64 k1, .int .i64 k2, .int .i64 a1, .int .i64 a2, .int .i64 b1, .int .i64 b2] 37)).alloc (.cells #[.int .i64 0, .int .i64 0] 35)).alloc (.cells #[.int .i64 3, .int .i64 x, .int .i64 0, .int .i64 0, .int .i64 0, .int .i64 0] 50)) (rowG_below hr HW.out))
  have HR := hidE hr
  clear hr hn CX
  unfold maxLen at l2
  unfold aggE at HCX ⊢
  go_enter Try.func50, Try.ntmps50
  go_wp2_with fail
  refine HCX.out.mono ?_
  rintro e w1 ⟨rfl, hb⟩
  have HB := hidE hb
  clear hb
  have hsz : w.heap.size + 3 ≤ w1.heap.size := by
    have := HB.out.size
    simp only [World.size_alloc] at this
    omega
  obtain ⟨hc, hf⟩ := rules HB
  go_wp2_with (go_at_call 52; refine (rnum_any _ _).mono ?_; rintro e w2 ⟨rfl, hb⟩; have HB := nxtE HB hb; obtain ⟨hc, hf⟩ := rules HB; clear hb)
  exact bodyPost_ret (v := .agg #[.int .i64 (numK (-x2)), .int .i64 (numN (-x2))]) (by simp [results, Try.results50, go_sem, hc, hf]) rfl ⟨rfl, ended HB HW.out _ _⟩

set_option maxRecDepth 100000 in
set_option maxHeartbeats 2000000 in
theorem rva_3n (l : List Nd) (ao : Option Addr) (cap : Nat) (i : Nat) (x x1 x2 t k1 k2 a1 a2 b1 b2 : Int) (w : World) (hl : l.length ≤ 1000) (hi : i < l.length)
    (hr : RowG w (.slice ao l.length cap) 6 l.length (rowN l)) (hn : l[i]? = some ⟨3, x, 0, 0, 0, 0⟩) (hk : (x1 == 1) = false) (CX : ∀ w, RowG w (.slice ao l.length cap) 6 l.length (rowN l) → Calls Try.prog 50 #[.slice ao l.length cap, .int .i64 x, aggE t k1 k2 a1 a2 b1 b2] w fun e w' => e = .returned (.agg #[.int .i64 x1, .int .i64 x2]) ∧ Below w.heap.size w w') :
    Calls Try.prog 50 #[.slice ao l.length cap, .int .i64 (i : Int), aggE t k1 k2 a1 a2 b1 b2] w fun e w' => e = .returned (.agg #[.int .i64 0, .int .i64 0]) ∧ Below w.heap.size w w' := by
  obtain ⟨g, off, rfl, hnode, l1, l2, l3⟩ := rowN_node hr i hi
  rw [(List.getElem?_eq_some_iff.1 hn).2] at hnode
  obtain ⟨n0, n1, n2, n3, n4, n5⟩ := hnode
  simp only at n0 n1 n2 n3 n4 n5
  have HW := hidE (w3_below w (.cells #[.int .i64 t, .int .i64 k1, .int .i64 k2, .int .i64 a1, .int .i64 a2, .int .i64 b1, .int .i64 b2] 37) (.cells #[.int .i64 0, .int .i64 0] 35) (.cells #[.int .i64 3, .int .i64 x, .int .i64 0, .int .i64 0, .int .i64 0, .int .i64 0] 50))
  have HCX := hidE (CX (((w.alloc (.cells #[.int .i64 t, .int .i64 k1, .int .i64 k2, .int .i64 a1, .int .i64 a2, .int .i64 b1, .int .i64 b2] 37)).alloc (.cells #[.int .i64 0, .int .i64 0] 35)).alloc (.cells #[.int .i64 3, .int .i64 x, .int .i64 0, .int .i64 0, .int .i64 0, .int .i64 0] 50)) (rowG_below hr HW.out))
  have HR := hidE hr
  clear hr hn CX
  unfold maxLen at l2
  unfold aggE at HCX ⊢
  go_enter Try.func50, Try.ntmps50
  go_wp2_with fail
  refine HCX.out.mono ?_
  rintro e w1 ⟨rfl, hb⟩
  have HB := hidE hb
  clear hb
  have hsz : w.heap.size + 3 ≤ w1.heap.size := by
    have := HB.out.size
    simp only [World.size_alloc] at this
    omega
  obtain ⟨hc, hf⟩ := rules HB
  obtain ⟨hc2, hf2⟩ := rules (nxta HB (.cells #[.int .i64 x1, .int .i64 x2] 35))
  go_wp2_with fail
  have y0 : (w1.alloc (.cells #[.int .i64 x1, .int .i64 x2] 35)).cell? ⟨w.heap.size + 1, 0, none⟩ = some (.int .i64 0) := by rw [hc2 _ _ (by simp only [World.size_alloc]; omega)]; go_simp
  have y1 : (w1.alloc (.cells #[.int .i64 x1, .int .i64 x2] 35)).cell? ⟨w.heap.size + 1, 1, none⟩ = some (.int .i64 0) := by rw [hc2 _ _ (by simp only [World.size_alloc]; omega)]; go_simp
  exact bodyPost_ret (v := .agg #[.int .i64 0, .int .i64 0]) (by simp [results, Try.results50, go_sem, y0, y1]) rfl ⟨rfl, ended (nxta HB (.cells #[.int .i64 x1, .int .i64 x2] 35)) HW.out _ _⟩

set_option maxRecDepth 100000 in
set_option maxHeartbeats 2000000 in
theorem rva_4y (l : List Nd) (ao : Option Addr) (cap : Nat) (i : Nat) (x x1 x2 t k1 k2 a1 a2 b1 b2 : Int) (w : World) (hl : l.length ≤ 1000) (hi : i < l.length)
    (hr : RowG w (.slice ao l.length cap) 6 l.length (rowN l)) (hn : l[i]? = some ⟨4, x, 0, 0, 0, 0⟩) (hk : (x1 == 2) = true) (CX : ∀ w, RowG w (.slice ao l.length cap) 6 l.length (rowN l) → Calls Try.prog 50 #[.slice ao l.length cap, .int .i64 x, aggE t k1 k2 a1 a2 b1 b2] w fun e w' => e = .returned (.agg #[.int .i64 x1, .int .i64 x2]) ∧ Below w.heap.size w w') :
    Calls Try.prog 50 #[.slice ao l.length cap, .int .i64 (i : Int), aggE t k1 k2 a1 a2 b1 b2] w fun e w' => e = .returned (.agg #[.int .i64 2, .int .i64 (b01 (x2 == 0))]) ∧ Below w.heap.size w w' := by
  obtain ⟨g, off, rfl, hnode, l1, l2, l3⟩ := rowN_node hr i hi
  rw [(List.getElem?_eq_some_iff.1 hn).2] at hnode
  obtain ⟨n0, n1, n2, n3, n4, n5⟩ := hnode
  simp only at n0 n1 n2 n3 n4 n5
  have HW := hidE (w3_below w (.cells #[.int .i64 t, .int .i64 k1, .int .i64 k2, .int .i64 a1, .int .i64 a2, .int .i64 b1, .int .i64 b2] 37) (.cells #[.int .i64 0, .int .i64 0] 35) (.cells #[.int .i64 4, .int .i64 x, .int .i64 0, .int .i64 0, .int .i64 0, .int .i64 0] 50))
  have HCX := hidE (CX (((w.alloc (.cells #[.int .i64 t, .int .i64 k1, .int .i64 k2, .int .i64 a1, .int .i64 a2, .int .i64 b1, .int .i64 b2] 37)).alloc (.cells #[.int .i64 0, .int .i64 0] 35)).alloc (.cells #[.int .i64 4, .int .i64 x, .int .i64 0, .int .i64 0, .int .i64 0, .int .i64 0] 50)) (rowG_below hr HW.out))
  have HR := hidE hr
  clear hr hn CX
  unfold maxLen at l2
  unfold aggE at HCX ⊢
  go_enter Try.func50, Try.ntmps50
  go_wp2_with fail
  refine HCX.out.mono ?_
  rintro e w1 ⟨rfl, hb⟩
  have HB := hidE hb
  clear hb
  have hsz : w.heap.size + 3 ≤ w1.heap.size := by
    have := HB.out.size
    simp only [World.size_alloc] at this
    omega
  obtain ⟨hc, hf⟩ := rules HB
  go_wp2_with (go_at_call 29; refine (rtruth_any _ _).mono ?_; rintro e w2 ⟨rfl, hb⟩; have HB := nxtE HB hb; obtain ⟨hc, hf⟩ := rules HB; clear hb)
  exact bodyPost_ret (v := .agg #[.int .i64 2, .int .i64 (b01 (x2 == 0))]) (by simp [results, Try.results50, go_sem, hc, hf]) rfl ⟨rfl, ended HB HW.out _ _⟩

set_option maxRecDepth 100000 in
set_option maxHeartbeats 2000000 in
theorem rva_4n (l : List Nd) (ao : Option Addr) (cap : Nat) (i : Nat) (x x1 x2 t k1 k2 a1 a2 b1 b2 : Int) (w : World) (hl : l.length ≤ 1000) (hi : i < l.length)
    (hr : RowG w (.slice ao l.length cap) 6 l.length (rowN l)) (hn : l[i]? = some ⟨4, x, 0, 0, 0, 0⟩) (hk : (x1 == 2) = false) (CX : ∀ w, RowG w (.slice ao l.length cap) 6 l.length (rowN l) → Calls Try.prog 50 #[.slice ao l.length cap, .int .i64 x, aggE t k1 k2 a1 a2 b1 b2] w fun e w' => e = .returned (.agg #[.int .i64 x1, .int .i64 x2]) ∧ Below w.heap.size w w') :
    Calls Try.prog 50 #[.slice ao l.length cap, .int .i64 (i : Int), aggE t k1 k2 a1 a2 b1 b2] w fun e w' => e = .returned (.agg #[.int .i64 0, .int .i64 0]) ∧ Below w.heap.size w w' := by
  obtain ⟨g, off, rfl, hnode, l1, l2, l3⟩ := rowN_node hr i hi
  rw [(List.getElem?_eq_some_iff.1 hn).2] at hnode
  obtain ⟨n0, n1, n2, n3, n4, n5⟩ := hnode
  simp only at n0 n1 n2 n3 n4 n5
  have HW := hidE (w3_below w (.cells #[.int .i64 t, .int .i64 k1, .int .i64 k2, .int .i64 a1, .int .i64 a2, .int .i64 b1, .int .i64 b2] 37) (.cells #[.int .i64 0, .int .i64 0] 35) (.cells #[.int .i64 4, .int .i64 x, .int .i64 0, .int .i64 0, .int .i64 0, .int .i64 0] 50))
  have HCX := hidE (CX (((w.alloc (.cells #[.int .i64 t, .int .i64 k1, .int .i64 k2, .int .i64 a1, .int .i64 a2, .int .i64 b1, .int .i64 b2] 37)).alloc (.cells #[.int .i64 0, .int .i64 0] 35)).alloc (.cells #[.int .i64 4, .int .i64 x, .int .i64 0, .int .i64 0, .int .i64 0, .int .i64 0] 50)) (rowG_below hr HW.out))
  have HR := hidE hr
  clear hr hn CX
  unfold maxLen at l2
  unfold aggE at HCX ⊢
  go_enter Try.func50, Try.ntmps50
  go_wp2_with fail
  refine HCX.out.mono ?_
  rintro e w1 ⟨rfl, hb⟩
  have HB := hidE hb
  clear hb
  have hsz : w.heap.size + 3 ≤ w1.heap.size := by
    have := HB.out.size
    simp only [World.size_alloc] at this
    omega
  obtain ⟨hc, hf⟩ := rules HB
  obtain ⟨hc2, hf2⟩ := rules (nxta HB (.cells #[.int .i64 x1, .int .i64 x2] 35))
  go_wp2_with fail
  have y0 : (w1.alloc (.cells #[.int .i64 x1, .int .i64 x2] 35)).cell? ⟨w.heap.size + 1, 0, none⟩ = some (.int .i64 0) := by rw [hc2 _ _ (by simp only [World.size_alloc]; omega)]; go_simp
  have y1 : (w1.alloc (.cells #[.int .i64 x1, .int .i64 x2] 35)).cell? ⟨w.heap.size + 1, 1, none⟩ = some (.int .i64 0) := by rw [hc2 _ _ (by simp only [World.size_alloc]; omega)]; go_simp
  exact bodyPost_ret (v := .agg #[.int .i64 0, .int .i64 0]) (by simp [results, Try.results50, go_sem, y0, y1]) rfl ⟨rfl, ended (nxta HB (.cells #[.int .i64 x1, .int .i64 x2] 35)) HW.out _ _⟩

set_option maxRecDepth 100000 in
set_option maxHeartbeats 2000000 in
theorem rva_5 (l : List Nd) (ao : Option Addr) (cap : Nat) (i : Nat) (x x1 x2 t k1 k2 a1 a2 b1 b2 : Int) (w : World) (hl : l.length ≤ 1000) (hi : i < l.length)
    (hr : RowG w (.slice ao l.length cap) 6 l.length (rowN l)) (hn : l[i]? = some ⟨5, x, 0, 0, 0, 0⟩) (CX : ∀ w, RowG w (.slice ao l.length cap) 6 l.length (rowN l) → Calls Try.prog 50 #[.slice ao l.length cap, .int .i64 x, aggE t k1 k2 a1 a2 b1 b2] w fun e w' => e = .returned (.agg #[.int .i64 x1, .int .i64 x2]) ∧ Below w.heap.size w w') :
    Calls Try.prog 50 #[.slice ao l.length cap, .int .i64 (i : Int), aggE t k1 k2 a1 a2 b1 b2] w fun e w' => e = .returned (.agg #[.int .i64 2, .int .i64 (b01 (x1 == 0))]) ∧ Below w.heap.size w w' := by
  obtain ⟨g, off, rfl, hnode, l1, l2, l3⟩ := rowN_node hr i hi
  rw [(List.getElem?_eq_some_iff.1 hn).2] at hnode
  obtain ⟨n0, n1, n2, n3, n4, n5⟩ := hnode
  simp only at n0 n1 n2 n3 n4 n5
  have HW := hidE (w3_below w (.cells #[.int .i64 t, .int .i64 k1, .int .i64 k2, .int .i64 a1, .int .i64 a2, .int .i64 b1, .int .i64 b2] 37) (.cells #[.int .i64 0, .int .i64 0] 35) (.cells #[.int .i64 5, .int .i64 x, .int .i64 0, .int .i64 0, .int .i64 0, .int .i64 0] 50))
  have HCX := hidE (CX (((w.alloc (.cells #[.int .i64 t, .int .i64 k1, .int .i64 k2, .int .i64 a1, .int .i64 a2, .int .i64 b1, .int .i64 b2] 37)).alloc (.cells #[.int .i64 0, .int .i64 0] 35)).alloc (.cells #[.int .i64 5, .int .i64 x, .int .i64 0, .int .i64 0, .int .i64 0, .int .i64 0] 50)) (rowG_below hr HW.out))
  have HR := hidE hr
  clear hr hn CX
  unfold maxLen at l2
  unfold aggE at HCX ⊢
  go_enter Try.func50, Try.ntmps50
  go_wp2_with fail
  refine HCX.out.mono ?_
  rintro e w1 ⟨rfl, hb⟩
  have HB := hidE hb
  clear hb
  have hsz : w.heap.size + 3 ≤ w1.heap.size := by
    have := HB.out.size
    simp only [World.size_alloc] at this
    omega
  obtain ⟨hc, hf⟩ := rules HB
  go_wp2_with (go_at_call 29; refine (rtruth_any _ _).mono ?_; rintro e w2 ⟨rfl, hb⟩; have HB := nxtE HB hb; obtain ⟨hc, hf⟩ := rules HB; clear hb)
  exact bodyPost_ret (v := .agg #[.int .i64 2, .int .i64 (b01 (x1 == 0))]) (by simp [results, Try.results50, go_sem, hc, hf]) rfl ⟨rfl, ended HB HW.out _ _⟩

set_option maxRecDepth 100000 in
set_option maxHeartbeats 2000000 in
theorem rva_2t (l : List Nd) (ao : Option Addr) (cap : Nat) (i : Nat) (zz t k1 k2 a1 a2 b1 b2 : Int) (w : World) (hl : l.length ≤ 1000) (hi : i < l.length)
    (hr : RowG w (.slice ao l.length cap) 6 l.length (rowN l)) (hn : l[i]? = some ⟨2, 0, 0, 0, 0, 0⟩) (hz : zz = 0) :
    Calls Try.prog 50 #[.slice ao l.length cap, .int .i64 (i : Int), aggE t k1 k2 a1 a2 b1 b2] w fun e w' => e = .returned (.agg #[.int .i64 (numK t), .int .i64 (numN t)]) ∧ Below w.heap.size w w' := by
  obtain ⟨g, off, rfl, hnode, l1, l2, l3⟩ := rowN_node hr i hi
  rw [(List.getElem?_eq_some_iff.1 hn).2] at hnode
  obtain ⟨n0, n1, n2, n3, n4, n5⟩ := hnode
  simp only at n0 n1 n2 n3 n4 n5
  have HW := hidE (w3_below w (.cells #[.int .i64 t, .int .i64 k1, .int .i64 k2, .int .i64 a1, .int .i64 a2, .int .i64 b1, .int .i64 b2] 37) (.cells #[.int .i64 0, .int .i64 0] 35) (.cells #[.int .i64 2, .int .i64 0, .int .i64 0, .int .i64 0, .int .i64 0, .int .i64 0] 50))
  have HR := hidE hr
  clear hr hn
  unfold maxLen at l2
  unfold aggE
  go_enter Try.func50, Try.ntmps50
  go_wp2_with fail
  refine (rnum_any _ _).mono ?_
  rintro e w1 ⟨rfl, hb⟩
  have HB := hidE hb
  clear hb
  obtain ⟨hc, hf⟩ := rules HB
  go_wp2_with fail
  exact bodyPost_ret (v := .agg #[.int .i64 (numK t), .int .i64 (numN t)]) (by simp [results, Try.results50, go_sem, hc, hf]) rfl ⟨rfl, ended HB HW.out _ _⟩

set_option maxRecDepth 100000 in
set_option maxHeartbeats 2000000 in
theorem rva_2k (l : List Nd) (ao : Option Addr) (cap : Nat) (i : Nat) (zz t k1 k2 a1 a2 b1 b2 : Int) (w : World) (hl : l.length ≤ 1000) (hi : i < l.length)
    (hr : RowG w (.slice ao l.length cap) 6 l.length (rowN l)) (hn : l[i]? = some ⟨2, 0, 0, 1, 0, 0⟩) (hz : zz = 0) :
    Calls Try.prog 50 #[.slice ao l.length cap, .int .i64 (i : Int), aggE t k1 k2 a1 a2 b1 b2] w fun e w' => e = .returned (.agg #[.int .i64 k1, .int .i64 k2]) ∧ Below w.heap.size w w' := by
  obtain ⟨g, off, rfl, hnode, l1, l2, l3⟩ := rowN_node hr i hi
  rw [(List.getElem?_eq_some_iff.1 hn).2] at hnode
  obtain ⟨n0, n1, n2, n3, n4, n5⟩ := hnode
  simp only at n0 n1 n2 n3 n4 n5
  have HW := hidE (w3_below w (.cells #[.int .i64 t, .int .i64 k1, .int .i64 k2, .int .i64 a1, .int .i64 a2, .int .i64 b1, .int .i64 b2] 37) (.cells #[.int .i64 0, .int .i64 0] 35) (.cells #[.int .i64 2, .int .i64 0, .int .i64 0, .int .i64 1, .int .i64 0, .int .i64 0] 50))
  have HR := hidE hr
  clear hr hn
  unfold maxLen at l2
  unfold aggE
  go_enter Try.func50, Try.ntmps50
  go_wp2_with fail
  exact bodyPost_ret (v := .agg #[.int .i64 k1, .int .i64 k2]) (by simp [results, Try.results50, go_sem]) rfl ⟨rfl, w3_below w _ _ _⟩

set_option maxRecDepth 100000 in
set_option maxHeartbeats 2000000 in
theorem rva_2a (l : List Nd) (ao : Option Addr) (cap : Nat) (i : Nat) (zz t k1 k2 a1 a2 b1 b2 : Int) (w : World) (hl : l.length ≤ 1000) (hi : i < l.length)
    (hr : RowG w (.slice ao l.length cap) 6 l.length (rowN l)) (hn : l[i]? = some ⟨2, 0, 0, 2, 0, 0⟩) (hz : zz = 0) :
    Calls Try.prog 50 #[.slice ao l.length cap, .int .i64 (i : Int), aggE t k1 k2 a1 a2 b1 b2] w fun e w' => e = .returned (.agg #[.int .i64 a1, .int .i64 a2]) ∧ Below w.heap.size w w' := by
  obtain ⟨g, off, rfl, hnode, l1, l2, l3⟩ := rowN_node hr i hi
  rw [(List.getElem?_eq_some_iff.1 hn).2] at hnode
  obtain ⟨n0, n1, n2, n3, n4, n5⟩ := hnode
  simp only at n0 n1 n2 n3 n4 n5
  have HW := hidE (w3_below w (.cells #[.int .i64 t, .int .i64 k1, .int .i64 k2, .int .i64 a1, .int .i64 a2, .int .i64 b1, .int .i64 b2] 37) (.cells #[.int .i64 0, .int .i64 0] 35) (.cells #[.int .i64 2, .int .i64 0, .int .i64 0, .int .i64 2, .int .i64 0, .int .i64 0] 50))
  have HR := hidE hr
  clear hr hn
  unfold maxLen at l2
  unfold aggE
  go_enter Try.func50, Try.ntmps50
  go_wp2_with fail
  exact bodyPost_ret (v := .agg #[.int .i64 a1, .int .i64 a2]) (by simp [results, Try.results50, go_sem]) rfl ⟨rfl, w3_below w _ _ _⟩

set_option maxRecDepth 100000 in
set_option maxHeartbeats 2000000 in
theorem rva_2b (l : List Nd) (ao : Option Addr) (cap : Nat) (i : Nat) (zz t k1 k2 a1 a2 b1 b2 : Int) (w : World) (hl : l.length ≤ 1000) (hi : i < l.length)
    (hr : RowG w (.slice ao l.length cap) 6 l.length (rowN l)) (hn : l[i]? = some ⟨2, 0, 0, 3, 0, 0⟩) (hz : zz = 0) :
    Calls Try.prog 50 #[.slice ao l.length cap, .int .i64 (i : Int), aggE t k1 k2 a1 a2 b1 b2] w fun e w' => e = .returned (.agg #[.int .i64 b1, .int .i64 b2]) ∧ Below w.heap.size w w' := by
  obtain ⟨g, off, rfl, hnode, l1, l2, l3⟩ := rowN_node hr i hi
  rw [(List.getElem?_eq_some_iff.1 hn).2] at hnode
  obtain ⟨n0, n1, n2, n3, n4, n5⟩ := hnode
  simp only at n0 n1 n2 n3 n4 n5
  have HW := hidE (w3_below w (.cells #[.int .i64 t, .int .i64 k1, .int .i64 k2, .int .i64 a1, .int .i64 a2, .int .i64 b1, .int .i64 b2] 37) (.cells #[.int .i64 0, .int .i64 0] 35) (.cells #[.int .i64 2, .int .i64 0, .int .i64 0, .int .i64 3, .int .i64 0, .int .i64 0] 50))
  have HR := hidE hr
  clear hr hn
  unfold maxLen at l2
  unfold aggE
  go_enter Try.func50, Try.ntmps50
  go_wp2_with fail
  exact bodyPost_ret (v := .agg #[.int .i64 b1, .int .i64 b2]) (by simp [results, Try.results50, go_sem]) rfl ⟨rfl, w3_below w _ _ _⟩

set_option maxRecDepth 100000 in
set_option maxHeartbeats 2000000 in
theorem rva_two (l : List Nd) (ao : Option Addr) (cap : Nat) (i : Nat) (op x y x1 x2 y1 y2 t k1 k2 a1 a2 b1 b2 : Int) (w : World) (hl : l.length ≤ 1000) (hi : i < l.length)
    (hr : RowG w (.slice ao l.length cap) 6 l.length (rowN l)) (hn : l[i]? = some ⟨op, x, y, 0, 0, 0⟩) (ho : 6 ≤ op) (ox : vok x1 x2 = true) (oy : vok y1 y2 = true) (CX : ∀ w, RowG w (.slice ao l.length cap) 6 l.length (rowN l) → Calls Try.prog 50 #[.slice ao l.length cap, .int .i64 x, aggE t k1 k2 a1 a2 b1 b2] w fun e w' => e = .returned (.agg #[.int .i64 x1, .int .i64 x2]) ∧ Below w.heap.size w w') (CY : ∀ w, RowG w (.slice ao l.length cap) 6 l.length (rowN l) → Calls Try.prog 50 #[.slice ao l.length cap, .int .i64 y, aggE t k1 k2 a1 a2 b1 b2] w fun e w' => e = .returned (.agg #[.int .i64 y1, .int .i64 y2]) ∧ Below w.heap.size w w') :
    Calls Try.prog 50 #[.slice ao l.length cap, .int .i64 (i : Int), aggE t k1 k2 a1 a2 b1 b2] w fun e w' => e = .returned (.agg #[.int .i64 (doV op x1 x2 y1 y2).1, .int .i64 (doV op x1 x2 y1 y2).2]) ∧ Below w.heap.size w w' := by
  obtain ⟨g, off, rfl, hnode, l1, l2, l3⟩ := rowN_node hr i hi
  rw [(List.getElem?_eq_some_iff.1 hn).2] at hnode
  obtain ⟨n0, n1, n2, n3, n4, n5⟩ := hnode
  simp only at n0 n1 n2 n3 n4 n5
  have HW := hidE (w3_below w (.cells #[.int .i64 t, .int .i64 k1, .int .i64 k2, .int .i64 a1, .int .i64 a2, .int .i64 b1, .int .i64 b2] 37) (.cells #[.int .i64 0, .int .i64 0] 35) (.cells #[.int .i64 op, .int .i64 x, .int .i64 y, .int .i64 0, .int .i64 0, .int .i64 0] 50))
  have HCX := hidE CX
  have HCY := hidE CY
  have HR := hidE hr
  clear hr hn CX CY
  unfold maxLen at l2
  unfold aggE at HCX HCY ⊢
  have g1 : (op == 1) = false := by simp; omega
  have g2 : (op == 2) = false := by simp; omega
  have g3 : (op == 3) = false := by simp; omega
  have g4 : (op == 4) = false := by simp; omega
  have g5 : (op == 5) = false := by simp; omega
  go_enter Try.func50, Try.ntmps50
  go_wp2_with fail
  have hS0 : SKeep (((w.alloc (.cells #[.int .i64 t, .int .i64 k1, .int .i64 k2, .int .i64 a1, .int .i64 a2, .int .i64 b1, .int .i64 b2] 37)).alloc (.cells #[.int .i64 0, .int .i64 0] 35)).alloc (.cells #[.int .i64 op, .int .i64 x, .int .i64 y, .int .i64 0, .int .i64 0, .int .i64 0] 50)) (w.heap.size + 1) { (((w.alloc (.cells #[.int .i64 t, .int .i64 k1, .int .i64 k2, .int .i64 a1, .int .i64 a2, .int .i64 b1, .int .i64 b2] 37)).alloc (.cells #[.int .i64 0, .int .i64 0] 35)).alloc (.cells #[.int .i64 op, .int .i64 x, .int .i64 y, .int .i64 0, .int .i64 0, .int .i64 0] 50)) with drawn := (((w.alloc (.cells #[.int .i64 t, .int .i64 k1, .int .i64 k2, .int .i64 a1, .int .i64 a2, .int .i64 b1, .int .i64 b2] 37)).alloc (.cells #[.int .i64 0, .int .i64 0] 35)).alloc (.cells #[.int .i64 op, .int .i64 x, .int .i64 y, .int .i64 0, .int .i64 0, .int .i64 0] 50)).drawn + 1 } := fun _ _ _ _ => rfl
  have HBr : Hid (Below (((w.alloc (.cells #[.int .i64 t, .int .i64 k1, .int .i64 k2, .int .i64 a1, .int .i64 a2, .int .i64 b1, .int .i64 b2] 37)).alloc (.cells #[.int .i64 0, .int .i64 0] 35)).alloc (.cells #[.int .i64 op, .int .i64 x, .int .i64 y, .int .i64 0, .int .i64 0, .int .i64 0] 50)).heap.size (((w.alloc (.cells #[.int .i64 t, .int .i64 k1, .int .i64 k2, .int .i64 a1, .int .i64 a2, .int .i64 b1, .int .i64 b2] 37)).alloc (.cells #[.int .i64 0, .int .i64 0] 35)).alloc (.cells #[.int .i64 op, .int .i64 x, .int .i64 y, .int .i64 0, .int .i64 0, .int .i64 0] 50)) { (((w.alloc (.cells #[.int .i64 t, .int .i64 k1, .int .i64 k2, .int .i64 a1, .int .i64 a2, .int .i64 b1, .int .i64 b2] 37)).alloc (.cells #[.int .i64 0, .int .i64 0] 35)).alloc (.cells #[.int .i64 op, .int .i64 x, .int .i64 y, .int .i64 0, .int .i64 0, .int .i64 0] 50)) with drawn := (((w.alloc (.cells #[.int .i64 t, .int .i64 k1, .int .i64 k2, .int .i64 a1, .int .i64 a2, .int .i64 b1, .int .i64 b2] 37)).alloc (.cells #[.int .i64 0, .int .i64 0] 35)).alloc (.cells #[.int .i64 op, .int .i64 x, .int .i64 y, .int .i64 0, .int .i64 0, .int .i64 0] 50)).drawn + 1 }) := (Below.refl _ _).drew
  have zx : (((w.alloc (.cells #[.int .i64 t, .int .i64 k1, .int .i64 k2, .int .i64 a1, .int .i64 a2, .int .i64 b1, .int .i64 b2] 37)).alloc (.cells #[.int .i64 0, .int .i64 0] 35)).alloc (.cells #[.int .i64 op, .int .i64 x, .int .i64 y, .int .i64 0, .int .i64 0, .int .i64 0] 50)).heap.size = w.heap.size + 3 := by simp
  have e0 : (((w.alloc (.cells #[.int .i64 t, .int .i64 k1, .int .i64 k2, .int .i64 a1, .int .i64 a2, .int .i64 b1, .int .i64 b2] 37)).alloc (.cells #[.int .i64 0, .int .i64 0] 35)).alloc (.cells #[.int .i64 op, .int .i64 x, .int .i64 y, .int .i64 0, .int .i64 0, .int .i64 0] 50)).cell? ⟨w.heap.size, 0, none⟩ = some (.int .i64 t) := by go_simp
  have e1 : (((w.alloc (.cells #[.int .i64 t, .int .i64 k1, .int .i64 k2, .int .i64 a1, .int .i64 a2, .int .i64 b1, .int .i64 b2] 37)).alloc (.cells #[.int .i64 0, .int .i64 0] 35)).alloc (.cells #[.int .i64 op, .int .i64 x, .int .i64 y, .int .i64 0, .int .i64 0, .int .i64 0] 50)).cell? ⟨w.heap.size, 1, none⟩ = some (.int .i64 k1) := by go_simp
  have e2 : (((w.alloc (.cells #[.int .i64 t, .int .i64 k1, .int .i64 k2, .int .i64 a1, .int .i64 a2, .int .i64 b1, .int .i64 b2] 37)).alloc (.cells #[.int .i64 0, .int .i64 0] 35)).alloc (.cells #[.int .i64 op, .int .i64 x, .int .i64 y, .int .i64 0, .int .i64 0, .int .i64 0] 50)).cell? ⟨w.heap.size, 2, none⟩ = some (.int .i64 k2) := by go_simp
  have e3 : (((w.alloc (.cells #[.int .i64 t, .int .i64 k1, .int .i64 k2, .int .i64 a1, .int .i64 a2, .int .i64 b1, .int .i64 b2] 37)).alloc (.cells #[.int .i64 0, .int .i64 0] 35)).alloc (.cells #[.int .i64 op, .int .i64 x, .int .i64 y, .int .i64 0, .int .i64 0, .int .i64 0] 50)).cell? ⟨w.heap.size, 3, none⟩ = some (.int .i64 a1) := by go_simp
  have e4 : (((w.alloc (.cells #[.int .i64 t, .int .i64 k1, .int .i64 k2, .int .i64 a1, .int .i64 a2, .int .i64 b1, .int .i64 b2] 37)).alloc (.cells #[.int .i64 0, .int .i64 0] 35)).alloc (.cells #[.int .i64 op, .int .i64 x, .int .i64 y, .int .i64 0, .int .i64 0, .int .i64 0] 50)).cell? ⟨w.heap.size, 4, none⟩ = some (.int .i64 a2) := by go_simp
  have e5 : (((w.alloc (.cells #[.int .i64 t, .int .i64 k1, .int .i64 k2, .int .i64 a1, .int .i64 a2, .int .i64 b1, .int .i64 b2] 37)).alloc (.cells #[.int .i64 0, .int .i64 0] 35)).alloc (.cells #[.int .i64 op, .int .i64 x, .int .i64 y, .int .i64 0, .int .i64 0, .int .i64 0] 50)).cell? ⟨w.heap.size, 5, none⟩ = some (.int .i64 b1) := by go_simp
  have e6 : (((w.alloc (.cells #[.int .i64 t, .int .i64 k1, .int .i64 k2, .int .i64 a1, .int .i64 a2, .int .i64 b1, .int .i64 b2] 37)).alloc (.cells #[.int .i64 0, .int .i64 0] 35)).alloc (.cells #[.int .i64 op, .int .i64 x, .int .i64 y, .int .i64 0, .int .i64 0, .int .i64 0] 50)).cell? ⟨w.heap.size, 6, none⟩ = some (.int .i64 b2) := by go_simp
  have m0 : (((w.alloc (.cells #[.int .i64 t, .int .i64 k1, .int .i64 k2, .int .i64 a1, .int .i64 a2, .int .i64 b1, .int .i64 b2] 37)).alloc (.cells #[.int .i64 0, .int .i64 0] 35)).alloc (.cells #[.int .i64 op, .int .i64 x, .int .i64 y, .int .i64 0, .int .i64 0, .int .i64 0] 50)).cell? ⟨w.heap.size + 2, 0, none⟩ = some (.int .i64 op) := by go_simp
  have m1 : (((w.alloc (.cells #[.int .i64 t, .int .i64 k1, .int .i64 k2, .int .i64 a1, .int .i64 a2, .int .i64 b1, .int .i64 b2] 37)).alloc (.cells #[.int .i64 0, .int .i64 0] 35)).alloc (.cells #[.int .i64 op, .int .i64 x, .int .i64 y, .int .i64 0, .int .i64 0, .int .i64 0] 50)).cell? ⟨w.heap.size + 2, 1, none⟩ = some (.int .i64 x) := by go_simp
  have m2 : (((w.alloc (.cells #[.int .i64 t, .int .i64 k1, .int .i64 k2, .int .i64 a1, .int .i64 a2, .int .i64 b1, .int .i64 b2] 37)).alloc (.cells #[.int .i64 0, .int .i64 0] 35)).alloc (.cells #[.int .i64 op, .int .i64 x, .int .i64 y, .int .i64 0, .int .i64 0, .int .i64 0] 50)).cell? ⟨w.heap.size + 2, 2, none⟩ = some (.int .i64 y) := by go_simp
  have f0 : (((w.alloc (.cells #[.int .i64 t, .int .i64 k1, .int .i64 k2, .int .i64 a1, .int .i64 a2, .int .i64 b1, .int .i64 b2] 37)).alloc (.cells #[.int .i64 0, .int .i64 0] 35)).alloc (.cells #[.int .i64 op, .int .i64 x, .int .i64 y, .int .i64 0, .int .i64 0, .int .i64 0] 50)).frozen? ⟨w.heap.size + 1, 0, none⟩ = false := by go_simp
  have f1 : (((w.alloc (.cells #[.int .i64 t, .int .i64 k1, .int .i64 k2, .int .i64 a1, .int .i64 a2, .int .i64 b1, .int .i64 b2] 37)).alloc (.cells #[.int .i64 0, .int .i64 0] 35)).alloc (.cells #[.int .i64 op, .int .i64 x, .int .i64 y, .int .i64 0, .int .i64 0, .int .i64 0] 50)).frozen? ⟨w.heap.size + 1, 1, none⟩ = false := by go_simp
  refine wp_region_held (S := SKeep (((w.alloc (.cells #[.int .i64 t, .int .i64 k1, .int .i64 k2, .int .i64 a1, .int .i64 a2, .int .i64 b1, .int .i64 b2] 37)).alloc (.cells #[.int .i64 0, .int .i64 0] 35)).alloc (.cells #[.int .i64 op, .int .i64 x, .int .i64 y, .int .i64 0, .int .i64 0, .int .i64 0] 50)) (w.heap.size + 1)) (by kernel_rfl) ?_
  generalize hw0 : ({ (((w.alloc (.cells #[.int .i64 t, .int .i64 k1, .int .i64 k2, .int .i64 a1, .int .i64 a2, .int .i64 b1, .int .i64 b2] 37)).alloc (.cells #[.int .i64 0, .int .i64 0] 35)).alloc (.cells #[.int .i64 op, .int .i64 x, .int .i64 y, .int .i64 0, .int .i64 0, .int .i64 0] 50)) with drawn := (((w.alloc (.cells #[.int .i64 t, .int .i64 k1, .int .i64 k2, .int .i64 a1, .int .i64 a2, .int .i64 b1, .int .i64 b2] 37)).alloc (.cells #[.int .i64 0, .int .i64 0] 35)).alloc (.cells #[.int .i64 op, .int .i64 x, .int .i64 y, .int .i64 0, .int .i64 0, .int .i64 0] 50)).drawn + 1 } : World) = wz at *
  clear hw0
  refine held_take (i := 0) (v := .pointer (some ⟨w.heap.size + 2, 0, none⟩)) (L := #[true, false, false, false, false, false, false, false, false, false, false, false, false, false]) rfl (by kernel_rfl) (by kernel_rfl) (by kernel_rfl) (fun c a w h => h) (Or.inl ⟨by kernel_rfl, fun wq h => by go_simp⟩) hS0 (by kernel_rfl) ?_
  refine held_take (i := 1) (v := .int .i64 op) (L := #[true, true, false, false, false, false, false, false, false, false, false, false, false, false]) rfl (by kernel_rfl) (by kernel_rfl) (by kernel_rfl) (fun c a w h => h) (Or.inl ⟨by kernel_rfl, fun wq h => by have q := h (w.heap.size + 2) 0 (by rw [zx]; omega) (by omega); rw [m0] at q; go_simp⟩) hS0 (by kernel_rfl) ?_
  refine held_take (i := 2) (v := .slice (some ⟨g, off, none⟩) l.length cap) (L := #[true, true, true, false, false, false, false, false, false, false, false, false, false, false]) rfl (by kernel_rfl) (by kernel_rfl) (by kernel_rfl) (fun c a w h => h) (Or.inl ⟨by kernel_rfl, fun wq h => by go_simp⟩) hS0 (by kernel_rfl) ?_
  refine held_take (i := 3) (v := .pointer (some ⟨w.heap.size + 2, 1, none⟩)) (L := #[true, true, true, true, false, false, false, false, false, false, false, false, false, false]) rfl (by kernel_rfl) (by kernel_rfl) (by kernel_rfl) (fun c a w h => h) (Or.inl ⟨by kernel_rfl, fun wq h => by go_simp⟩) hS0 (by kernel_rfl) ?_
  refine held_take (i := 4) (v := .int .i64 x) (L := #[true, true, true, true, true, false, false, false, false, false, false, false, false, false]) rfl (by kernel_rfl) (by kernel_rfl) (by kernel_rfl) (fun c a w h => h) (Or.inl ⟨by kernel_rfl, fun wq h => by have q := h (w.heap.size + 2) 1 (by rw [zx]; omega) (by omega); rw [m1] at q; go_simp⟩) hS0 (by kernel_rfl) ?_
  refine held_take (i := 5) (v := .agg #[.int .i64 t, .int .i64 k1, .int .i64 k2, .int .i64 a1, .int .i64 a2, .int .i64 b1, .int .i64 b2]) (L := #[true, true, true, true, true, true, false, false, false, false, false, false, false, false]) rfl (by kernel_rfl) (by kernel_rfl) (by kernel_rfl) (fun c a w h => h) (Or.inl ⟨by kernel_rfl, fun wq h => by have q0 := h w.heap.size 0 (by rw [zx]; omega) (by omega); rw [e0] at q0; have q1 := h w.heap.size 1 (by rw [zx]; omega) (by omega); rw [e1] at q1; have q2 := h w.heap.size 2 (by rw [zx]; omega) (by omega); rw [e2] at q2; have q3 := h w.heap.size 3 (by rw [zx]; omega) (by omega); rw [e3] at q3; have q4 := h w.heap.size 4 (by rw [zx]; omega) (by omega); rw [e4] at q4; have q5 := h w.heap.size 5 (by rw [zx]; omega) (by omega); rw [e5] at q5; have q6 := h w.heap.size 6 (by rw [zx]; omega) (by omega); rw [e6] at q6; go_simp⟩) hS0 (by kernel_rfl) ?_
  refine held_take (i := 7) (v := .slice (some ⟨g, off, none⟩) l.length cap) (L := #[true, true, true, true, true, true, false, true, false, false, false, false, false, false]) rfl (by kernel_rfl) (by kernel_rfl) (by kernel_rfl) (fun c a w h => h) (Or.inl ⟨by kernel_rfl, fun wq h => by go_simp⟩) hS0 (by kernel_rfl) ?_
  refine held_take (i := 8) (v := .pointer (some ⟨w.heap.size + 2, 2, none⟩)) (L := #[true, true, true, true, true, true, false, true, true, false, false, false, false, false]) rfl (by kernel_rfl) (by kernel_rfl) (by kernel_rfl) (fun c a w h => h) (Or.inl ⟨by kernel_rfl, fun wq h => by go_simp⟩) hS0 (by kernel_rfl) ?_
  refine held_take (i := 9) (v := .int .i64 y) (L := #[true, true, true, true, true, true, false, true, true, true, false, false, false, false]) rfl (by kernel_rfl) (by kernel_rfl) (by kernel_rfl) (fun c a w h => h) (Or.inl ⟨by kernel_rfl, fun wq h => by have q := h (w.heap.size + 2) 2 (by rw [zx]; omega) (by omega); rw [m2] at q; go_simp⟩) hS0 (by kernel_rfl) ?_
  refine held_take (i := 10) (v := .agg #[.int .i64 t, .int .i64 k1, .int .i64 k2, .int .i64 a1, .int .i64 a2, .int .i64 b1, .int .i64 b2]) (L := #[true, true, true, true, true, true, false, true, true, true, true, false, false, false]) rfl (by kernel_rfl) (by kernel_rfl) (by kernel_rfl) (fun c a w h => h) (Or.inl ⟨by kernel_rfl, fun wq h => by have q0 := h w.heap.size 0 (by rw [zx]; omega) (by omega); rw [e0] at q0; have q1 := h w.heap.size 1 (by rw [zx]; omega) (by omega); rw [e1] at q1; have q2 := h w.heap.size 2 (by rw [zx]; omega) (by omega); rw [e2] at q2; have q3 := h w.heap.size 3 (by rw [zx]; omega) (by omega); rw [e3] at q3; have q4 := h w.heap.size 4 (by rw [zx]; omega) (by omega); rw [e4] at q4; have q5 := h w.heap.size 5 (by rw [zx]; omega) (by omega); rw [e5] at q5; have q6 := h w.heap.size 6 (by rw [zx]; omega) (by omega); rw [e6] at q6; go_simp⟩) hS0 (by kernel_rfl) ?_
  refine held_go (i := 6) (L := #[true, true, true, true, true, true, true, true, true, true, true, false, false, false]) (by kernel_rfl) rfl (by kernel_rfl) (by kernel_rfl) ?_
  intro K' hK
  go_simp
  refine (HCX.out _ (rowG_below (rowG_below HR.out HW.out) HBr.out)).mono ?_
  rintro e wz ⟨rfl, hb⟩
  have HBr := hidE (HBr.out.trans (hb.mono HBr.out.size))
  clear hb
  refine hK _ _ ⟨keep_below _ HBr.out, ?_⟩
  clear hK
  refine held_go (i := 11) (L := #[true, true, true, true, true, true, true, true, true, true, true, true, false, false]) (by kernel_rfl) rfl (by kernel_rfl) (by kernel_rfl) ?_
  intro K' hK
  go_simp
  refine (HCY.out _ (rowG_below (rowG_below HR.out HW.out) HBr.out)).mono ?_
  rintro e wz ⟨rfl, hb⟩
  have HBr := hidE (HBr.out.trans (hb.mono HBr.out.size))
  clear hb
  refine hK _ _ ⟨keep_below _ HBr.out, ?_⟩
  clear hK
  refine held_go (i := 12) (L := #[true, true, true, true, true, true, true, true, true, true, true, true, true, false]) (by kernel_rfl) rfl (by kernel_rfl) (by kernel_rfl) ?_
  intro K' hK
  go_simp
  refine (rdo_any _ _ _ _ _ _ ox oy).mono ?_
  rintro e wz ⟨rfl, hb⟩
  have HBr := hidE (HBr.out.trans (hb.mono HBr.out.size))
  clear hb
  refine hK _ _ ⟨keep_below _ HBr.out, ?_⟩
  clear hK
  obtain ⟨hc, hf⟩ := rules HBr
  refine held_go (i := 13) (L := #[true, true, true, true, true, true, true, true, true, true, true, true, true, true]) (by kernel_rfl) rfl (by kernel_rfl) (by kernel_rfl) ?_
  intro K' hK
  go_simp
  refine hK _ _ ⟨keep_set (keep_set (keep_below _ HBr.out) _ _) _ _, ?_⟩
  clear hK
  refine wpAnyH_done (by kernel_rfl) ?_ _
  go_wp2_with fail
  exact bodyPost_ret (v := .agg #[.int .i64 (doV op x1 x2 y1 y2).1, .int .i64 (doV op x1 x2 y1 y2).2]) (by simp [results, Try.results50, go_sem, hc, hf]) rfl ⟨rfl, ended HBr HW.out _ _⟩

end Go.Proofs.Ytepfpmagppckeaa

/- The contracts of query's constText, signText and nodeText, over this seat's translation. Conditions: the node may be; the library's tables and the fields' names lie. -/
import Derived.Test.YteaanpdckkmjoaaGreatDoorLex3J
import Derived.Test.YteaanpdckkmjoaaGreatDoorValsJ
import Derived.Test.YteaanpdckkmjoaaGreatDoorPrsN
import Derived.Lib.ItoaLen
namespace Go.Proofs.YteaanpdckkmjoaaGreatDoor
open Go.ChangeShapes Go.WideShapes Go.ChangeAt Go.RowKit
set_option linter.unusedVariables false
set_option linter.unusedSimpArgs false

set_option maxRecDepth 100000 in
set_option maxHeartbeats 8000000 in
theorem ctext_neg (v : Int) (h0 : v < 0) (h1 : -1000000000 ≤ v) (w : World) (ht : Tabs w) :
    Calls Tryz.prog 70 #[.agg #[.int .i64 1, .int .i64 v]] w fun e w' => e = .returned (.string (cstB 1 v)) ∧ Below w.heap.size w w' := by
  have ba := below_alloc w (.cells #[.int .i64 1, .int .i64 v] 89)
  have BA := hidE ba
  have NG := neg_any 1 v (w.alloc (.cells #[.int .i64 1, .int .i64 v] 89)) h1 (by omega)
  have e1 : negV 1 v = (1, -v) := by unfold negV numV numK numN; rw [if_pos rfl, if_pos (by omega), if_pos (by omega)]
  rw [e1] at NG
  have NGH := hidE NG
  have TN := hidE (fun w' (ht : Tabs w') => text_num (-v) w' (by omega) (by omega) ht)
  have T0 := hidE (ht.below ba)
  have d0 : decide (v < 0) = true := by simpa using h0
  have ec : Hid (cstB 1 v = ⟨#[40, 48, 32, 45, 32]⟩ ++ ⟨(Lib.itoa (-v)).toArray⟩ ++ ⟨#[41]⟩) := by show _ = _; unfold cstB; rw [if_pos h0]
  have hsz : (⟨(Lib.itoa (-v)).toArray⟩ : ByteArray).size ≤ 21 := by
    show (Lib.itoa (-v)).toArray.size ≤ 21
    rw [List.size_toArray]
    exact Lib.itoa_length_le _ (by omega) (by omega)
  generalize (⟨(Lib.itoa (-v)).toArray⟩ : ByteArray) = tx at *
  clear NG e1 ht ba h1
  go_enter Tryz.func70, Tryz.ntmps70
  go_wp2_with fail
  refine NGH.out.mono ?_
  rintro r w1 ⟨rfl, hb⟩
  have B1 := hidE (BA.out.trans (hb.mono BA.out.size))
  have TX := hidE (TN.out w1 (T0.out.below hb))
  clear hb NGH TN T0
  go_wp2_with fail
  refine TX.out.mono ?_
  rintro r w2 ⟨rfl, hb⟩
  have B2 := hidE (B1.out.trans (hb.mono B1.out.size))
  clear hb TX
  go_wp2_with fail
  go_ret
  rw [ec.out]
  exact ⟨rfl, B2.out⟩
set_option maxRecDepth 100000 in
set_option maxHeartbeats 8000000 in
theorem ctext_pos (k v : Int) (h0 : 0 ≤ v) (w : World) (HT : ∀ w', Below w.heap.size w w' → Calls Tryz.prog 91 #[.agg #[.int .i64 k, .int .i64 v]] w' fun e w'' => e = .returned (.string ⟨(textB k v).toArray⟩) ∧ Below w'.heap.size w' w'') :
    Calls Tryz.prog 70 #[.agg #[.int .i64 k, .int .i64 v]] w fun e w' => e = .returned (.string (cstB k v)) ∧ Below w.heap.size w w' := by
  have ba := below_alloc w (.cells #[.int .i64 k, .int .i64 v] 89)
  have BA := hidE ba
  have TX := hidE (HT _ ba)
  have d0 : ¬ v < 0 := by omega
  have ec : Hid (cstB k v = ⟨(textB k v).toArray⟩) := by show _ = _; unfold cstB; rw [if_neg d0]
  generalize (⟨(textB k v).toArray⟩ : ByteArray) = tx at *
  clear HT ba h0
  go_enter Tryz.func70, Tryz.ntmps70
  go_wp2_with fail
  refine TX.out.mono ?_
  rintro r w2 ⟨rfl, hb⟩
  have B2 := hidE (BA.out.trans (hb.mono BA.out.size))
  clear hb TX
  go_wp2_with fail
  go_ret
  rw [ec.out]
  exact ⟨rfl, B2.out⟩
theorem ctext_any (k v : Int) (hv : vokB k v = true) (w : World) (ht : Tabs w) :
    Calls Tryz.prog 70 #[.agg #[.int .i64 k, .int .i64 v]] w fun e w' => e = .returned (.string (cstB k v)) ∧ Below w.heap.size w w' := by
  have h := of_decide_eq_true hv
  by_cases h0 : v < 0
  · obtain rfl : k = 1 := by omega
    exact ctext_neg v h0 (by omega) w ht
  · refine ctext_pos k v (by omega) w (fun w' hb => ?_)
    rcases h with ⟨rfl, rfl⟩ | ⟨rfl, -, h2⟩ | ⟨rfl, rfl | rfl⟩
    · exact text_N w'
    · exact text_num v w' (by omega) (by omega) (ht.below hb)
    · exact text_F w'
    · exact text_T w'
set_option maxRecDepth 100000 in
set_option maxHeartbeats 8000000 in
theorem sign_6 (w : World) : Calls Tryz.prog 71 #[.int .i64 6] w fun e w' => e = .returned (.string (sgnB 6)) ∧ w' = w := by
  go_enter Tryz.func71, Tryz.ntmps71
  go_wp2_with fail
  go_ret
  exact ⟨rfl, rfl⟩
set_option maxRecDepth 100000 in
set_option maxHeartbeats 8000000 in
theorem sign_7 (w : World) : Calls Tryz.prog 71 #[.int .i64 7] w fun e w' => e = .returned (.string (sgnB 7)) ∧ w' = w := by
  go_enter Tryz.func71, Tryz.ntmps71
  go_wp2_with fail
  go_ret
  exact ⟨rfl, rfl⟩
set_option maxRecDepth 100000 in
set_option maxHeartbeats 8000000 in
theorem sign_8 (w : World) : Calls Tryz.prog 71 #[.int .i64 8] w fun e w' => e = .returned (.string (sgnB 8)) ∧ w' = w := by
  go_enter Tryz.func71, Tryz.ntmps71
  go_wp2_with fail
  go_ret
  exact ⟨rfl, rfl⟩
set_option maxRecDepth 100000 in
set_option maxHeartbeats 8000000 in
theorem sign_9 (w : World) : Calls Tryz.prog 71 #[.int .i64 9] w fun e w' => e = .returned (.string (sgnB 9)) ∧ w' = w := by
  go_enter Tryz.func71, Tryz.ntmps71
  go_wp2_with fail
  go_ret
  exact ⟨rfl, rfl⟩
set_option maxRecDepth 100000 in
set_option maxHeartbeats 8000000 in
theorem sign_10 (w : World) : Calls Tryz.prog 71 #[.int .i64 10] w fun e w' => e = .returned (.string (sgnB 10)) ∧ w' = w := by
  go_enter Tryz.func71, Tryz.ntmps71
  go_wp2_with fail
  go_ret
  exact ⟨rfl, rfl⟩
set_option maxRecDepth 100000 in
set_option maxHeartbeats 8000000 in
theorem sign_11 (w : World) : Calls Tryz.prog 71 #[.int .i64 11] w fun e w' => e = .returned (.string (sgnB 11)) ∧ w' = w := by
  go_enter Tryz.func71, Tryz.ntmps71
  go_wp2_with fail
  go_ret
  exact ⟨rfl, rfl⟩
set_option maxRecDepth 100000 in
set_option maxHeartbeats 8000000 in
theorem sign_12 (w : World) : Calls Tryz.prog 71 #[.int .i64 12] w fun e w' => e = .returned (.string (sgnB 12)) ∧ w' = w := by
  go_enter Tryz.func71, Tryz.ntmps71
  go_wp2_with fail
  go_ret
  exact ⟨rfl, rfl⟩
theorem two_cases {op : Int} (h : ar op = 2) : op = 6 ∨ op = 7 ∨ op = 8 ∨ op = 9 ∨ op = 10 ∨ op = 11 ∨ op = 12 := by
  unfold ar at h
  split at h
  · omega
  · split at h
    · omega
    · split at h
      · omega
      · omega
theorem one_cases {op : Int} (h : ar op = 1) : op = 3 ∨ op = 4 ∨ op = 5 := by
  unfold ar at h
  split at h
  · omega
  · split at h
    · omega
    · split at h
      · omega
      · omega
theorem zero_cases {op : Int} (h : ar op = 0) : op = 1 ∨ op = 2 := by
  unfold ar at h
  split at h
  · omega
  · split at h
    · omega
    · split at h
      · omega
      · omega
theorem sign_any (op : Int) (h : ar op = 2) (w : World) : Calls Tryz.prog 71 #[.int .i64 op] w fun e w' => e = .returned (.string (sgnB op)) ∧ w' = w := by
  rcases two_cases h with rfl | rfl | rfl | rfl | rfl | rfl | rfl
  · exact sign_6 w
  · exact sign_7 w
  · exact sign_8 w
  · exact sign_9 w
  · exact sign_10 w
  · exact sign_11 w
  · exact sign_12 w
/-- texts in a row -/
def TxR (w : World) (v : Value) (vs : List V2) : Prop := RowG w v 1 vs.length (vs.map fun p => Value.string (D p))
theorem txR_at {w : World} {ao : Option Addr} {cap : Nat} {vs : List V2} (h : TxR w (.slice ao vs.length cap) vs) (i : Nat) (hi : i < vs.length) : ∃ g off, ao = some ⟨g, off, none⟩ ∧ w.cell? ⟨g, off + i, none⟩ = some (.string (D vs[i])) ∧ vs.length ≤ cap ∧ cap ≤ maxLen ∧ g < w.heap.size := by
  obtain ⟨h0, h⟩ := h
  rcases h with ⟨-, h⟩ | ⟨g, off, cap', e, h1, h2, h3, h4⟩
  · omega
  · simp only [Value.slice.injEq] at e
    obtain ⟨rfl, -, rfl⟩ := e
    refine ⟨g, off, rfl, ?_, h1, h2, h3⟩
    rw [h4 i (by omega)]
    simp [hi]
set_option maxRecDepth 100000 in
set_option maxHeartbeats 8000000 in
theorem node_1 (x y nn k nv : Int) (hv : vokB k nv = true) (a : Option Addr) (n c : Nat) (w : World) (ht : Tabs w) :
    Calls Tryz.prog 46 #[.agg #[.int .i64 1, .int .i64 x, .int .i64 y, .int .i64 nn, .int .i64 k, .int .i64 nv], .slice a n c] w fun e w' => e = .returned (.string (cstB k nv)) ∧ Below w.heap.size w w' := by
  have ba := below_alloc w (.cells #[.int .i64 1, .int .i64 x, .int .i64 y, .int .i64 nn, .int .i64 k, .int .i64 nv] 91)
  have BA := hidE ba
  have CT := hidE (ctext_any k nv hv _ (ht.below ba))
  generalize cstB k nv = tx at *
  clear ba ht hv
  go_enter Tryz.func46, Tryz.ntmps46
  go_wp2_with fail
  refine CT.out.mono ?_
  rintro r w1 ⟨rfl, hb⟩
  have B1 := hidE (BA.out.trans (hb.mono BA.out.size))
  clear hb CT
  go_wp2_with fail
  go_ret
  exact ⟨rfl, B1.out⟩
set_option maxRecDepth 100000 in
set_option maxHeartbeats 8000000 in
theorem node_20 (x y k nv : Int) (a : Option Addr) (n c : Nat) (w : World) (ht : TabQ w) :
    Calls Tryz.prog 46 #[.agg #[.int .i64 2, .int .i64 x, .int .i64 y, .int .i64 0, .int .i64 k, .int .i64 nv], .slice a n c] w fun e w' => e = .returned (.string (fldB 0)) ∧ Below w.heap.size w w' := by
  have ba := below_alloc w (.cells #[.int .i64 2, .int .i64 x, .int .i64 y, .int .i64 0, .int .i64 k, .int .i64 nv] 91)
  have BA := hidE ba
  have g0 := (ht.below ba).f0
  have hz := ht.t.sz
  have hz0 : 0 < w.heap.size := by omega
  clear ba ht
  go_enter Tryz.func46, Tryz.ntmps46
  go_wp2_with fail
  go_ret
  exact ⟨rfl, BA.out⟩
set_option maxRecDepth 100000 in
set_option maxHeartbeats 8000000 in
theorem node_21 (x y k nv : Int) (a : Option Addr) (n c : Nat) (w : World) (ht : TabQ w) :
    Calls Tryz.prog 46 #[.agg #[.int .i64 2, .int .i64 x, .int .i64 y, .int .i64 1, .int .i64 k, .int .i64 nv], .slice a n c] w fun e w' => e = .returned (.string (fldB 1)) ∧ Below w.heap.size w w' := by
  have ba := below_alloc w (.cells #[.int .i64 2, .int .i64 x, .int .i64 y, .int .i64 1, .int .i64 k, .int .i64 nv] 91)
  have BA := hidE ba
  have g1 := (ht.below ba).f1
  have hz := ht.t.sz
  have hz0 : 0 < w.heap.size := by omega
  clear ba ht
  go_enter Tryz.func46, Tryz.ntmps46
  go_wp2_with fail
  go_ret
  exact ⟨rfl, BA.out⟩
set_option maxRecDepth 100000 in
set_option maxHeartbeats 8000000 in
theorem node_22 (x y k nv : Int) (a : Option Addr) (n c : Nat) (w : World) (ht : TabQ w) :
    Calls Tryz.prog 46 #[.agg #[.int .i64 2, .int .i64 x, .int .i64 y, .int .i64 2, .int .i64 k, .int .i64 nv], .slice a n c] w fun e w' => e = .returned (.string (fldB 2)) ∧ Below w.heap.size w w' := by
  have ba := below_alloc w (.cells #[.int .i64 2, .int .i64 x, .int .i64 y, .int .i64 2, .int .i64 k, .int .i64 nv] 91)
  have BA := hidE ba
  have g2 := (ht.below ba).f2
  have hz := ht.t.sz
  have hz0 : 0 < w.heap.size := by omega
  clear ba ht
  go_enter Tryz.func46, Tryz.ntmps46
  go_wp2_with fail
  go_ret
  exact ⟨rfl, BA.out⟩
set_option maxRecDepth 100000 in
set_option maxHeartbeats 8000000 in
theorem node_23 (x y k nv : Int) (a : Option Addr) (n c : Nat) (w : World) (ht : TabQ w) :
    Calls Tryz.prog 46 #[.agg #[.int .i64 2, .int .i64 x, .int .i64 y, .int .i64 3, .int .i64 k, .int .i64 nv], .slice a n c] w fun e w' => e = .returned (.string (fldB 3)) ∧ Below w.heap.size w w' := by
  have ba := below_alloc w (.cells #[.int .i64 2, .int .i64 x, .int .i64 y, .int .i64 3, .int .i64 k, .int .i64 nv] 91)
  have BA := hidE ba
  have g3 := (ht.below ba).f3
  have hz := ht.t.sz
  have hz0 : 0 < w.heap.size := by omega
  clear ba ht
  go_enter Tryz.func46, Tryz.ntmps46
  go_wp2_with fail
  go_ret
  exact ⟨rfl, BA.out⟩
set_option maxRecDepth 100000 in
set_option maxHeartbeats 8000000 in
theorem node_3 (i : Nat) (y nn k nv : Int) (vs : List V2) (cap : Nat) (ao : Option Addr) (hi : i < vs.length) (hs : (D vs[i]).size ≤ 100000000000000) (w : World) (hr : TxR w (.slice ao vs.length cap) vs) :
    Calls Tryz.prog 46 #[.agg #[.int .i64 3, .int .i64 (i : Int), .int .i64 y, .int .i64 nn, .int .i64 k, .int .i64 nv], .slice ao vs.length cap] w fun e w' => e = .returned (.string (txO 3 (D vs[i]) ⟨#[]⟩)) ∧ Below w.heap.size w w' := by
  have ba := below_alloc w (.cells #[.int .i64 3, .int .i64 (i : Int), .int .i64 y, .int .i64 nn, .int .i64 k, .int .i64 nv] 91)
  have BA := hidE ba
  obtain ⟨g, off, rfl, hc, h1, h2, h3⟩ := txR_at hr i hi
  have c0 := (ba.cell (p := ⟨g, off + i, none⟩) h3).trans hc
  have hi2 : ((i : Int)) < (vs.length : Int) := by omega
  generalize D vs[i] = tx at *
  unfold maxLen at h2
  clear ba hr hc
  go_enter Tryz.func46, Tryz.ntmps46
  go_wp2_with fail
  go_ret
  exact ⟨rfl, BA.out⟩
set_option maxRecDepth 100000 in
set_option maxHeartbeats 8000000 in
theorem node_4 (i : Nat) (y nn k nv : Int) (vs : List V2) (cap : Nat) (ao : Option Addr) (hi : i < vs.length) (hs : (D vs[i]).size ≤ 100000000000000) (w : World) (hr : TxR w (.slice ao vs.length cap) vs) :
    Calls Tryz.prog 46 #[.agg #[.int .i64 4, .int .i64 (i : Int), .int .i64 y, .int .i64 nn, .int .i64 k, .int .i64 nv], .slice ao vs.length cap] w fun e w' => e = .returned (.string (txO 4 (D vs[i]) ⟨#[]⟩)) ∧ Below w.heap.size w w' := by
  have ba := below_alloc w (.cells #[.int .i64 4, .int .i64 (i : Int), .int .i64 y, .int .i64 nn, .int .i64 k, .int .i64 nv] 91)
  have BA := hidE ba
  obtain ⟨g, off, rfl, hc, h1, h2, h3⟩ := txR_at hr i hi
  have c0 := (ba.cell (p := ⟨g, off + i, none⟩) h3).trans hc
  have hi2 : ((i : Int)) < (vs.length : Int) := by omega
  generalize D vs[i] = tx at *
  unfold maxLen at h2
  clear ba hr hc
  go_enter Tryz.func46, Tryz.ntmps46
  go_wp2_with fail
  go_ret
  exact ⟨rfl, BA.out⟩
set_option maxRecDepth 100000 in
set_option maxHeartbeats 8000000 in
theorem node_5 (i : Nat) (y nn k nv : Int) (vs : List V2) (cap : Nat) (ao : Option Addr) (hi : i < vs.length) (hs : (D vs[i]).size ≤ 100000000000000) (w : World) (hr : TxR w (.slice ao vs.length cap) vs) :
    Calls Tryz.prog 46 #[.agg #[.int .i64 5, .int .i64 (i : Int), .int .i64 y, .int .i64 nn, .int .i64 k, .int .i64 nv], .slice ao vs.length cap] w fun e w' => e = .returned (.string (txO 5 (D vs[i]) ⟨#[]⟩)) ∧ Below w.heap.size w w' := by
  have ba := below_alloc w (.cells #[.int .i64 5, .int .i64 (i : Int), .int .i64 y, .int .i64 nn, .int .i64 k, .int .i64 nv] 91)
  have BA := hidE ba
  obtain ⟨g, off, rfl, hc, h1, h2, h3⟩ := txR_at hr i hi
  have c0 := (ba.cell (p := ⟨g, off + i, none⟩) h3).trans hc
  have hi2 : ((i : Int)) < (vs.length : Int) := by omega
  generalize D vs[i] = tx at *
  unfold maxLen at h2
  clear ba hr hc
  go_enter Tryz.func46, Tryz.ntmps46
  go_wp2_with fail
  go_ret
  exact ⟨rfl, BA.out⟩
set_option maxRecDepth 100000 in
set_option maxHeartbeats 8000000 in
theorem node_two (op : Int) (ho : ar op = 2) (i j : Nat) (nn k nv : Int) (vs : List V2) (cap : Nat) (ao : Option Addr) (hi : i < vs.length) (hj : j < vs.length) (hs : (D vs[i]).size ≤ 100000000000000) (hs2 : (D vs[j]).size ≤ 100000000000000) (w : World) (hr : TxR w (.slice ao vs.length cap) vs) :
    Calls Tryz.prog 46 #[.agg #[.int .i64 op, .int .i64 (i : Int), .int .i64 (j : Int), .int .i64 nn, .int .i64 k, .int .i64 nv], .slice ao vs.length cap] w fun e w' => e = .returned (.string (txO op (D vs[i]) (D vs[j]))) ∧ Below w.heap.size w w' := by
  have ba := below_alloc w (.cells #[.int .i64 op, .int .i64 (i : Int), .int .i64 (j : Int), .int .i64 nn, .int .i64 k, .int .i64 nv] 91)
  have BA := hidE ba
  have BN := blk_alloc w [.int .i64 op, .int .i64 (i : Int), .int .i64 (j : Int), .int .i64 nn, .int .i64 k, .int .i64 nv] 91
  obtain ⟨g, off, rfl, hc, h1, h2, h3⟩ := txR_at hr i hi
  obtain ⟨g9, off9, e9, hc2, -, -, -⟩ := txR_at hr j hj
  simp only [Option.some.injEq, Addr.mk.injEq, and_true] at e9
  obtain ⟨rfl, rfl⟩ := e9
  have c0 := (ba.cell (p := ⟨g, off + i, none⟩) h3).trans hc
  have c1 := (ba.cell (p := ⟨g, off + j, none⟩) h3).trans hc2
  have hi2 : ((i : Int)) < (vs.length : Int) := by omega
  have hj2 : ((j : Int)) < (vs.length : Int) := by omega
  have n0 := BN.c 0 (by simp)
  have n1 := BN.c 1 (by simp)
  have n2 := BN.c 2 (by simp)
  simp only [List.getElem?_cons_zero, List.getElem?_cons_succ] at n0 n1 n2
  have hop : op = 6 ∨ op = 7 ∨ op = 8 ∨ op = 9 ∨ op = 10 ∨ op = 11 ∨ op = 12 := two_cases ho
  have o1 : (op == 1) = false := by simp; omega
  have o2 : (op == 2) = false := by simp; omega
  have o3 : (op == 3) = false := by simp; omega
  have o4 : (op == 4) = false := by simp; omega
  have o5 : (op == 5) = false := by simp; omega
  have et : Hid (txO op (D vs[i]) (D vs[j]) = ⟨#[40]⟩ ++ D vs[i] ++ ⟨#[32]⟩ ++ sgnB op ++ ⟨#[32]⟩ ++ D vs[j] ++ ⟨#[41]⟩) := by
    show _ = _
    unfold txO
    rw [if_neg (by omega), if_neg (by omega), if_neg (by omega)]
  generalize D vs[i] = tx at *
  generalize D vs[j] = ty at *
  unfold maxLen at h2
  have lgn := BN.lt
  have hsg : (sgnB op).size ≤ 3 := by rcases hop with rfl | rfl | rfl | rfl | rfl | rfl | rfl <;> decide
  have lgg : g < (w.alloc (.cells #[.int .i64 op, .int .i64 (i : Int), .int .i64 (j : Int), .int .i64 nn, .int .i64 k, .int .i64 nv] 91)).heap.size := by have := ba.size; omega
  clear ba hr hc hc2 BN hop
  go_enter Tryz.func46, Tryz.ntmps46
  go_wp2_with fail
  generalize w.alloc (.cells #[.int .i64 op, .int .i64 (i : Int), .int .i64 (j : Int), .int .i64 nn, .int .i64 k, .int .i64 nv] 91) = w0 at *
  have hS : Below w0.heap.size w0 ({ w0 with drawn := w0.drawn + 1 } : World) := (Below.refl _ _).drew
  refine wp_region_held (S := fun w' => Below w0.heap.size w0 w') (by kernel_rfl) ?_
  generalize ({ w0 with drawn := w0.drawn + 1 } : World) = wd at *
  refine held_take (i := 0) (v := .slice (some ⟨g, off, none⟩) vs.length cap) (L := #[true, false, false, false, false, false, false, false, false, false, false, false, false, false, false, false, false, false, false, false]) rfl (by kernel_rfl) (by kernel_rfl) (by kernel_rfl) (fun c a w h => h) (Or.inl ⟨by kernel_rfl, fun wq hq => by go_simp⟩) hS (by kernel_rfl) ?_
  refine held_take (i := 1) (v := .pointer (some ⟨w.heap.size, 1, none⟩)) (L := #[true, true, false, false, false, false, false, false, false, false, false, false, false, false, false, false, false, false, false, false]) rfl (by kernel_rfl) (by kernel_rfl) (by kernel_rfl) (fun c a w h => h) (Or.inl ⟨by kernel_rfl, fun wq hq => by go_simp⟩) hS (by kernel_rfl) ?_
  refine held_take (i := 2) (v := .int .i64 (i : Int)) (L := #[true, true, true, false, false, false, false, false, false, false, false, false, false, false, false, false, false, false, false, false]) rfl (by kernel_rfl) (by kernel_rfl) (by kernel_rfl) (fun c a w h => h) (Or.inl ⟨by kernel_rfl, fun wq hq => by have q9 := hq.cell (p := ⟨w.heap.size, 1, none⟩) lgn; rw [n1] at q9; go_simp⟩) hS (by kernel_rfl) ?_
  refine held_take (i := 3) (v := .pointer (some ⟨g, off + i, none⟩)) (L := #[true, true, true, true, false, false, false, false, false, false, false, false, false, false, false, false, false, false, false, false]) rfl (by kernel_rfl) (by kernel_rfl) (by kernel_rfl) (fun c a w h => h) (Or.inl ⟨by kernel_rfl, fun wq hq => by go_simp⟩) hS (by kernel_rfl) ?_
  refine held_take (i := 4) (v := .string tx) (L := #[true, true, true, true, true, false, false, false, false, false, false, false, false, false, false, false, false, false, false, false]) rfl (by kernel_rfl) (by kernel_rfl) (by kernel_rfl) (fun c a w h => h) (Or.inl ⟨by kernel_rfl, fun wq hq => by have q9 := hq.cell (p := ⟨g, off + i, none⟩) lgg; rw [c0] at q9; go_simp⟩) hS (by kernel_rfl) ?_
  refine held_take (i := 5) (v := .string (⟨#[40]⟩ ++ tx)) (L := #[true, true, true, true, true, true, false, false, false, false, false, false, false, false, false, false, false, false, false, false]) rfl (by kernel_rfl) (by kernel_rfl) (by kernel_rfl) (fun c a w h => h) (Or.inl ⟨by kernel_rfl, fun wq hq => by first | (go_simp; done) | (go_simp; omega) | (go_simp; simp only [ByteArray.size_append]; omega)⟩) hS (by kernel_rfl) ?_
  refine held_take (i := 6) (v := .string (⟨#[40]⟩ ++ tx ++ ⟨#[32]⟩)) (L := #[true, true, true, true, true, true, true, false, false, false, false, false, false, false, false, false, false, false, false, false]) rfl (by kernel_rfl) (by kernel_rfl) (by kernel_rfl) (fun c a w h => h) (Or.inl ⟨by kernel_rfl, fun wq hq => by first | (go_simp; done) | (go_simp; omega) | (go_simp; simp only [ByteArray.size_append]; omega)⟩) hS (by kernel_rfl) ?_
  refine held_take (i := 7) (v := .pointer (some ⟨w.heap.size, 0, none⟩)) (L := #[true, true, true, true, true, true, true, true, false, false, false, false, false, false, false, false, false, false, false, false]) rfl (by kernel_rfl) (by kernel_rfl) (by kernel_rfl) (fun c a w h => h) (Or.inl ⟨by kernel_rfl, fun wq hq => by go_simp⟩) hS (by kernel_rfl) ?_
  refine held_take (i := 8) (v := .int .i64 op) (L := #[true, true, true, true, true, true, true, true, true, false, false, false, false, false, false, false, false, false, false, false]) rfl (by kernel_rfl) (by kernel_rfl) (by kernel_rfl) (fun c a w h => h) (Or.inl ⟨by kernel_rfl, fun wq hq => by have q9 := hq.cell (p := ⟨w.heap.size, 0, none⟩) lgn; rw [n0] at q9; go_simp⟩) hS (by kernel_rfl) ?_
  refine held_take (i := 12) (v := .slice (some ⟨g, off, none⟩) vs.length cap) (L := #[true, true, true, true, true, true, true, true, true, false, false, false, true, false, false, false, false, false, false, false]) rfl (by kernel_rfl) (by kernel_rfl) (by kernel_rfl) (fun c a w h => h) (Or.inl ⟨by kernel_rfl, fun wq hq => by go_simp⟩) hS (by kernel_rfl) ?_
  refine held_take (i := 13) (v := .pointer (some ⟨w.heap.size, 2, none⟩)) (L := #[true, true, true, true, true, true, true, true, true, false, false, false, true, true, false, false, false, false, false, false]) rfl (by kernel_rfl) (by kernel_rfl) (by kernel_rfl) (fun c a w h => h) (Or.inl ⟨by kernel_rfl, fun wq hq => by go_simp⟩) hS (by kernel_rfl) ?_
  refine held_take (i := 14) (v := .int .i64 (j : Int)) (L := #[true, true, true, true, true, true, true, true, true, false, false, false, true, true, true, false, false, false, false, false]) rfl (by kernel_rfl) (by kernel_rfl) (by kernel_rfl) (fun c a w h => h) (Or.inl ⟨by kernel_rfl, fun wq hq => by have q9 := hq.cell (p := ⟨w.heap.size, 2, none⟩) lgn; rw [n2] at q9; go_simp⟩) hS (by kernel_rfl) ?_
  refine held_take (i := 15) (v := .pointer (some ⟨g, off + j, none⟩)) (L := #[true, true, true, true, true, true, true, true, true, false, false, false, true, true, true, true, false, false, false, false]) rfl (by kernel_rfl) (by kernel_rfl) (by kernel_rfl) (fun c a w h => h) (Or.inl ⟨by kernel_rfl, fun wq hq => by go_simp⟩) hS (by kernel_rfl) ?_
  refine held_take (i := 16) (v := .string ty) (L := #[true, true, true, true, true, true, true, true, true, false, false, false, true, true, true, true, true, false, false, false]) rfl (by kernel_rfl) (by kernel_rfl) (by kernel_rfl) (fun c a w h => h) (Or.inl ⟨by kernel_rfl, fun wq hq => by have q9 := hq.cell (p := ⟨g, off + j, none⟩) lgg; rw [c1] at q9; go_simp⟩) hS (by kernel_rfl) ?_
  refine held_go (i := 9) (L := #[true, true, true, true, true, true, true, true, true, true, false, false, true, true, true, true, true, false, false, false]) (by kernel_rfl) rfl (by kernel_rfl) (by kernel_rfl) ?_
  intro K' hK
  go_simp
  refine (sign_any op ho _).mono ?_
  rintro e w1 ⟨rfl, rfl⟩
  refine hK _ _ ⟨hS, ?_⟩
  clear hK
  refine held_take (i := 10) (v := .string (⟨#[40]⟩ ++ tx ++ ⟨#[32]⟩ ++ sgnB op)) (L := #[true, true, true, true, true, true, true, true, true, true, true, false, true, true, true, true, true, false, false, false]) rfl (by kernel_rfl) (by kernel_rfl) (by kernel_rfl) (fun c a w h => h) (Or.inl ⟨by kernel_rfl, fun wq hq => by first | (go_simp; done) | (go_simp; omega) | (go_simp; simp only [ByteArray.size_append]; omega)⟩) hS (by kernel_rfl) ?_
  refine held_take (i := 11) (v := .string (⟨#[40]⟩ ++ tx ++ ⟨#[32]⟩ ++ sgnB op ++ ⟨#[32]⟩)) (L := #[true, true, true, true, true, true, true, true, true, true, true, true, true, true, true, true, true, false, false, false]) rfl (by kernel_rfl) (by kernel_rfl) (by kernel_rfl) (fun c a w h => h) (Or.inl ⟨by kernel_rfl, fun wq hq => by first | (go_simp; done) | (go_simp; omega) | (go_simp; simp only [ByteArray.size_append]; omega)⟩) hS (by kernel_rfl) ?_
  refine held_take (i := 17) (v := .string (⟨#[40]⟩ ++ tx ++ ⟨#[32]⟩ ++ sgnB op ++ ⟨#[32]⟩ ++ ty)) (L := #[true, true, true, true, true, true, true, true, true, true, true, true, true, true, true, true, true, true, false, false]) rfl (by kernel_rfl) (by kernel_rfl) (by kernel_rfl) (fun c a w h => h) (Or.inl ⟨by kernel_rfl, fun wq hq => by first | (go_simp; done) | (go_simp; omega) | (go_simp; simp only [ByteArray.size_append]; omega)⟩) hS (by kernel_rfl) ?_
  refine held_take (i := 18) (v := .string (⟨#[40]⟩ ++ tx ++ ⟨#[32]⟩ ++ sgnB op ++ ⟨#[32]⟩ ++ ty ++ ⟨#[41]⟩)) (L := #[true, true, true, true, true, true, true, true, true, true, true, true, true, true, true, true, true, true, true, false]) rfl (by kernel_rfl) (by kernel_rfl) (by kernel_rfl) (fun c a w h => h) (Or.inl ⟨by kernel_rfl, fun wq hq => by first | (go_simp; done) | (go_simp; omega) | (go_simp; simp only [ByteArray.size_append]; omega)⟩) hS (by kernel_rfl) ?_
  refine held_go (i := 19) (L := #[true, true, true, true, true, true, true, true, true, true, true, true, true, true, true, true, true, true, true, true]) (by kernel_rfl) rfl (by kernel_rfl) (by kernel_rfl) ?_
  intro K' hK
  go_simp
  refine hK _ _ ⟨hS, ?_⟩
  clear hK
  refine wpAnyH_done (by kernel_rfl) ?_ _
  have BZ := hidE (BA.out.trans (hS.mono BA.out.size))
  clear hS
  go_wp2_with fail
  go_ret
  rw [et.out]
  exact ⟨rfl, BZ.out⟩
end Go.Proofs.YteaanpdckkmjoaaGreatDoor

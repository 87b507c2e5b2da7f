/- Several texts in one, each with its own head. What is proved: what the parts say. Conditions: theirs. -/
import Derived.Test.YteaanpdckkmjoaaGreatDoorTx1
import Derived.Shelf.Lays
import Derived.Shelf.Strings.OnBuilder
import Derived.Test.YteaanpdckkmjoaaGreatDoorProg
/- The contract of query's exprText, over this seat's translation. Conditions: the expression may be; the library's tables and the fields' names lie. -/
namespace Go.Proofs.YteaanpdckkmjoaaGreatDoor
open Go.ChangeShapes Go.WideShapes Go.ChangeAt Go.RowKit
set_option linter.unusedVariables false
set_option linter.unusedSimpArgs false

theorem nthI (vs : List V2) (i : Nat) (h : i < vs.length) : nth vs (i : Int) = vs[i] := by
  unfold nth
  rw [if_neg (by omega), List.getD_eq_getElem?_getD, Int.toNat_natCast, List.getElem?_eq_getElem h]; rfl
/-- no text is too long -/
def BdT (vs : List V2) : Prop := ∀ i p, vs[i]? = some p → (D p).size + 10 ≤ 37 * 2 ^ i
theorem bd_max {vs : List V2} (h : BdT vs) (hl : vs.length ≤ 40) {i : Nat} (hi : i < vs.length) : (D vs[i]).size ≤ 20400000000000 := by
  have h1 := h i vs[i] (List.getElem?_eq_getElem hi)
  have h2 : 2 ^ i ≤ 2 ^ 39 := Nat.pow_le_pow_right (by decide) (by omega)
  have h3 : (2 : Nat) ^ 39 = 549755813888 := by decide
  omega
theorem mk_size (l : List UInt8) : (⟨l.toArray⟩ : ByteArray).size = l.length := by
  show l.toArray.size = _
  simp
theorem cstB_size (k v : Int) (h : vokB k v = true) : (cstB k v).size ≤ 27 := by
  have hv := of_decide_eq_true h
  unfold cstB
  by_cases h0 : v < 0
  · rw [if_pos h0, ByteArray.size_append, ByteArray.size_append, mk_size (Lib.itoa (-v))]
    have := Lib.itoa_length_le (-v) (by omega) (by omega)
    have e1 : (⟨#[40, 48, 32, 45, 32]⟩ : ByteArray).size = 5 := rfl
    have e2 : (⟨#[41]⟩ : ByteArray).size = 1 := rfl
    rw [e1, e2]
    omega
  · rw [if_neg h0, mk_size]
    unfold textB
    split
    · have := Lib.itoa_length_le v (by omega) (by omega)
      omega
    · split
      · decide
      · split <;> decide
theorem fldB_size (n : Int) : (fldB n).size ≤ 1 := by
  unfold fldB
  repeat' split
  all_goals decide
theorem sgnB_size (op : Int) : (sgnB op).size ≤ 3 := by
  unfold sgnB
  repeat' split
  all_goals decide
theorem txO_size (op : Int) (a b : ByteArray) : (txO op a b).size ≤ a.size + b.size + 10 := by
  unfold txO
  have h0 := sgnB_size op
  have e1 : (⟨#[40, 45, 32]⟩ : ByteArray).size = 3 := rfl
  have e2 : (⟨#[41]⟩ : ByteArray).size = 1 := rfl
  have e3 : (⟨#[40, 110, 111, 116, 32]⟩ : ByteArray).size = 5 := rfl
  have e4 : (⟨#[40]⟩ : ByteArray).size = 1 := rfl
  have e5 : (⟨#[32, 105, 115, 32, 110, 117, 108, 108, 41]⟩ : ByteArray).size = 9 := rfl
  have e6 : (⟨#[32]⟩ : ByteArray).size = 1 := rfl
  repeat' split
  all_goals simp only [ByteArray.size_append, e1, e2, e3, e4, e5, e6]; omega
/-- a node's text: what a fold's step says -/
theorem ntext_any (l : List Nd) (bs : List Nat) (hg : Good l bs) (hl : l.length ≤ 40) (vs : List V2) (n : Nd) (hn : l[vs.length]? = some n) (hb : BdT vs) (cap : Nat) (ao : Option Addr) (w : World) (ht : TabQ w) (hr : TxR w (.slice ao vs.length cap) vs) :
    Calls Tryz.prog 46 #[aggN n, .slice ao vs.length cap] w (fun e w' => e = .returned (.string (D (evN oT evT4 n vs))) ∧ Below w.heap.size w w') ∧ (D (evN oT evT4 n vs)).size + 10 ≤ 37 * 2 ^ vs.length := by
  have hlt := (List.getElem?_eq_some_iff.1 hn).1
  obtain ⟨hok, h0, -, h1, h2⟩ := good_at hg hn
  have p0 : 1 ≤ 2 ^ vs.length := Nat.one_le_two_pow
  by_cases c0 : ar n.op = 0
  · rcases okN_zero hok c0 with ⟨e, hv⟩ | ⟨e, f0, f1⟩
    · rw [e]
      generalize n.k = k at *
      generalize n.v = v at *
      have e9 : D (evN oT evT4 ⟨1, 0, 0, 0, k, v⟩ vs) = cstB k v := by
        show D (k, v) = _
        unfold D
        rw [if_neg (vok_ne hv)]
      rw [e9]
      exact ⟨node_1 0 0 0 k v hv _ _ _ w ht.t, by have := cstB_size k v hv; omega⟩
    · rw [e]
      generalize n.n = m at *
      have e9 : D (evN oT evT4 ⟨2, 0, 0, m, 0, 0⟩ vs) = fldB m := D_fld m f0 f1
      rw [e9]
      refine ⟨?_, by have := fldB_size m; omega⟩
      have : m = 0 ∨ m = 1 ∨ m = 2 ∨ m = 3 := by omega
      rcases this with rfl | rfl | rfl | rfl
      · exact node_20 0 0 0 0 _ _ _ w ht
      · exact node_21 0 0 0 0 _ _ _ w ht
      · exact node_22 0 0 0 0 _ _ _ w ht
      · exact node_23 0 0 0 0 _ _ _ w ht
  · by_cases c1 : ar n.op = 1
    · obtain ⟨q0, q1, -⟩ := h1 c1
      have hi : vs.length - 1 < vs.length := by omega
      have hx : n.x = ((vs.length - 1 : Nat) : Int) := by omega
      have e := okN_one hok c1
      have hnth : nth vs n.x = vs[vs.length - 1] := by rw [hx]; exact nthI vs _ hi
      have c12 := ar_12 (op := n.op) (by omega)
      have e9 : D (evN oT evT4 n vs) = txO n.op (D vs[vs.length - 1]) ⟨#[]⟩ := by
        unfold evN
        rw [if_neg c12.1, if_neg c12.2, if_pos c1, hnth]
        show D (E _) = _
        rw [D_E]
        exact txO_one c1 _ _ _
      have hs := Nat.le_trans (bd_max hb (by omega) hi) (by decide : 20400000000000 ≤ 100000000000000)
      rw [e9]
      constructor
      · have e8 : aggN n = .agg #[.int .i64 n.op, .int .i64 ((vs.length - 1 : Nat) : Int), .int .i64 0, .int .i64 0, .int .i64 0, .int .i64 0] := by
          conv => lhs; rw [e]
          rw [← hx]
          rfl
        rw [e8]
        have ho := one_cases c1
        generalize n.op = op at *
        rcases ho with rfl | rfl | rfl
        · exact node_3 _ 0 0 0 0 vs cap ao hi hs w hr
        · exact node_4 _ 0 0 0 0 vs cap ao hi hs w hr
        · exact node_5 _ 0 0 0 0 vs cap ao hi hs w hr
      · have h3 := txO_size n.op (D vs[vs.length - 1]) ⟨#[]⟩
        have h4 := hb _ _ (List.getElem?_eq_getElem hi)
        have e7 : (⟨#[]⟩ : ByteArray).size = 0 := rfl
        have h5 : 2 ^ (vs.length - 1) * 2 = 2 ^ vs.length := by rw [← Nat.pow_succ]; congr 1; omega
        have h6 : 1 ≤ 2 ^ (vs.length - 1) := Nat.one_le_two_pow
        omega
    · have c2 : ar n.op = 2 := by
        unfold ar at *
        repeat' split at h0
        all_goals first | omega | (simp_all; done) | (exfalso; omega)
      obtain ⟨q0, q1, q2, q3, -⟩ := h2 c2
      have hj : vs.length - 1 < vs.length := by omega
      have hle := good_le hg (vs.length - 1) (by omega)
      generalize bs.getD (vs.length - 1) 0 = b at *
      have hi : b - 1 < vs.length := by omega
      have hy : n.y = ((vs.length - 1 : Nat) : Int) := by omega
      have hx : n.x = ((b - 1 : Nat) : Int) := by omega
      have e := okN_two hok c2
      have c12 := ar_12 (op := n.op) (by omega)
      have e9 : D (evN oT evT4 n vs) = txO n.op (D vs[b - 1]) (D vs[vs.length - 1]) := by
        unfold evN
        rw [if_neg c12.1, if_neg c12.2, if_neg c1, hx, hy, nthI vs _ hi, nthI vs _ hj]
        show D (E _) = _
        rw [D_E]
      have hs := Nat.le_trans (bd_max hb (by omega) hi) (by decide : 20400000000000 ≤ 100000000000000)
      have hs2 := Nat.le_trans (bd_max hb (by omega) hj) (by decide : 20400000000000 ≤ 100000000000000)
      rw [e9]
      constructor
      · have e8 : aggN n = .agg #[.int .i64 n.op, .int .i64 ((b - 1 : Nat) : Int), .int .i64 ((vs.length - 1 : Nat) : Int), .int .i64 0, .int .i64 0, .int .i64 0] := by
          conv => lhs; rw [e]
          rw [← hx, ← hy]
          rfl
        rw [e8]
        exact node_two n.op c2 _ _ 0 0 0 vs cap ao hi hj hs hs2 w hr
      · have h3 := txO_size n.op (D vs[b - 1]) (D vs[vs.length - 1])
        have h4 := hb _ _ (List.getElem?_eq_getElem hi)
        have h4' := hb _ _ (List.getElem?_eq_getElem hj)
        have h5 : 2 ^ (vs.length - 1) * 2 = 2 ^ vs.length := by rw [← Nat.pow_succ]; congr 1; omega
        have h6 : 2 ^ (b - 1) ≤ 2 ^ (vs.length - 1) := Nat.pow_le_pow_right (by decide) (by omega)
        have h7 : 1 ≤ 2 ^ (vs.length - 1) := Nat.one_le_two_pow
        omega
theorem infoStr : (Tryz.prog.info? 9).map (fun i => (i.zero, i.size, i.bytes, (i.zero.map (·.cells.size)))) = some (some (.string ⟨#[]⟩), 1, 16, some 1) := by kernel_rfl
theorem txR_app {vs : List V2} {p : V2} : (vs ++ [p]).map (fun p => Value.string (D p)) = vs.map (fun p => Value.string (D p)) ++ [.string (D p)] := by simp
set_option maxRecDepth 100000 in
set_option maxHeartbeats 2000000 in
theorem etext_any (l : List Nd) (v : Value) (w : World) (hc : chkE l = 0) (hr : NodG w v l) (ht : TabQ w) :
    Calls Tryz.prog 25 #[v] w fun e w' => e = .returned (.string (txL l)) ∧ Below w.heap.size w w' ∧ (txL l).size ≤ 20400000000000 := by
  obtain ⟨bs, hg, hl, h0, -⟩ := good_of_chk hc
  obtain ⟨ao, cap, rfl⟩ := rowG_shape hr
  obtain ⟨i0, hi0, hz0, hz1, hz2⟩ := info_partsA infoStr
  have HR := hidE hr
  have HG := hidE hg
  have HT := hidE ht
  have hT : txL l = D (nth (evF oT evT4 l []) ((l.length : Int) - 1)) := rfl
  rw [hT]
  generalize hF : evF oT evT4 l [] = T
  have HF := hidE hF
  clear hr hg ht hT hF hc
  go_enter Tryz.func25, Tryz.ntmps25
  go_wp2_with (at_make; go_must (refine wpList_make_own _ rfl _ _ 52 rfl w.heap.size 9 i0 (.string ⟨#[]⟩) 1 Tryz.underlying52 hi0 hz0 hz1 .i64 .i64 _ l.length rfl rfl rfl (by rw [hz2]; omega) (by show _ ≤ 2 ^ 63 - 1; omega) (Nat.le_refl _) ?_))
  intro w3 ho3 hg3
  have HB3 : Hid (Below w.heap.size w w3) := (Below.refl _ _).grown hg3 (Nat.le_refl _) (fun k hk => by cases hk)
  have HO3 := hidE ho3
  clear ho3 hg3
  go_wp2_with fail
  go_loopw [3, 11] (fun v i wr => ∃ (m : Nat) (vs : List V2), m ≤ l.length ∧ vs.length = m ∧ i = .int .i64 m ∧ Hid (wr.ownsRow w.heap.size 9 1 v vs.length (vs.map fun p => Value.string (D p))) ∧ Hid (Below w.heap.size w wr) ∧ Hid (BdT vs) ∧ Hid (evF oT evT4 (l.drop vs.length) vs = T)) (fun _ i _ => l.length - (intOf i).toNat)
  case atStart => exact ⟨0, [], Nat.zero_le _, rfl, rfl, HO3, HB3, fun i p h => by simp at h, HF⟩
  case round =>
    clear HF HB3 HO3
    obtain ⟨m, vs, hm, rfl, rfl, HO, HB, HD, HS⟩ := hrel
    obtain ⟨ao2, cap2, rfl⟩ := owns_shapeE HO.out
    by_cases hlt : vs.length < l.length
    · obtain ⟨g, off, rfl, hnode, l1, l2, l3⟩ := rowN_node HR.out _ hlt
      have hS := HS.out
      rw [List.drop_eq_getElem_cons hlt] at hS
      have hn : l[vs.length]? = some l[vs.length] := List.getElem?_eq_getElem hlt
      generalize l[vs.length] = nd at *
      obtain ⟨n0, n1, n2, n3, n4, n5⟩ := nodeAt_below hnode HB.out l3
      clear hnode
      unfold maxLen at l2
      simp only [evF] at hS
      have HNW := ntext_any l bs HG.out hl vs nd hn HD.out cap2 ao2 (wr.alloc (.cells #[.int .i64 nd.op, .int .i64 nd.x, .int .i64 nd.y, .int .i64 nd.n, .int .i64 nd.k, .int .i64 nd.v] 91)) ((HT.out.below HB.out).below (below_alloc wr _)) (rowG_of_owns (HO.out.alloc _))
      have HN := hidE HNW.1
      have HBD : Hid (BdT (vs ++ [evN oT evT4 nd vs])) := fun i p h => by
        by_cases hi : i < vs.length
        · rw [List.getElem?_append_left hi] at h
          exact HD.out i p h
        · have hi2 : i = vs.length := by
            have := (List.getElem?_eq_some_iff.1 h).1
            simp at this
            omega
          subst hi2
          simp at h
          subst h
          exact HNW.2
      have HS := hidE hS
      clear HNW hS hn HD
      unfold aggN at HN
      obtain ⟨p, hp⟩ : ∃ p, p = evN oT evT4 nd vs := ⟨_, rfl⟩
      rw [← hp] at HN HBD HS
      clear hp
      have hob : ∀ k, (Value.slice ao2 vs.length cap2).ownBlock = some k → w.heap.size ≤ k ∧ k < wr.heap.size := own_at HO.out
      obtain ⟨hc, hf⟩ := rules HB
      obtain ⟨hc2, hf2⟩ := rules (nxta HB (.cells #[.int .i64 nd.op, .int .i64 nd.x, .int .i64 nd.y, .int .i64 nd.n, .int .i64 nd.k, .int .i64 nd.v] 91))
      go_wp2_with fail
      refine HN.out.mono ?_
      rintro e w4 ⟨rfl, hb⟩
      have HB4 := nxt (nxta HB (.cells #[.int .i64 nd.op, .int .i64 nd.x, .int .i64 nd.y, .int .i64 nd.n, .int .i64 nd.k, .int .i64 nd.v] 91)) hb
      have HO4 := hidE (own_keep (HO.out.alloc _) hb (Nat.le_refl _))
      clear hb hc hf hc2 hf2 HN
      go_wp2_with (at_builtin; go_must (refine wpList_append_own _ rfl (.tmp 15) (.tmp 19) 52 rfl w.heap.size 9 i0 (.string ⟨#[]⟩) 1 16 Tryz.underlying52 hi0 hz0 hz1 hz2 rfl (by decide) _ _ _ rfl (HO4.out.alloc _) ⟨w4.heap.size, 0, none⟩ 1 1 [.string (D p)] rfl rfl (cell_one_new _ _ _) (by intro u hu; simp at hu; subst hu; rfl) (by show _ ≤ 2 ^ 63 - 1; omega) (by omega) (by have := HB4.out.size; simp; omega) ?_))
      intro v' w5 ho5 hg5 _
      have ho6 : w5.ownsRow w.heap.size 9 1 v' (vs ++ [p]).length ((vs ++ [p]).map fun p => Value.string (D p)) := by
        rw [txR_app, List.length_append]
        exact ho5
      have HO5 := hidE ho6
      have HB5 : Hid (Below w.heap.size w w5) := (HB4.out.alloc HB4.out.size _).grown hg5 (by have := HB4.out.size; simp; omega) (fun k hk => (HO4.out.lt k hk).1)
      clear ho5 hg5 ho6 hob
      go_wp2_with fail
      go_roundw
      case rel => exact ⟨vs.length + 1, vs ++ [p], by omega, by simp, by go_num, HO5, HB5, HBD, by
        show evF oT evT4 (l.drop (vs ++ [p]).length) (vs ++ [p]) = T
        rw [List.length_append]
        exact HS.out⟩
      case measure => simp [intOf]; omega
    · have hml : vs.length = l.length := by omega
      have hS := HS.out
      rw [List.drop_eq_nil_of_le (by omega)] at hS
      simp only [evF] at hS
      subst hS
      have hlast : l.length - 1 < vs.length := by omega
      obtain ⟨g, off, e9, hcl, l1, l2, l3⟩ := txR_at (vs := vs) (rowG_of_owns HO.out) (l.length - 1) hlast
      have hq : nth vs ((l.length : Int) - 1) = vs[l.length - 1] := by
        rw [show (l.length : Int) - 1 = ((l.length - 1 : Nat) : Int) by omega]
        exact nthI vs _ hlast
      have HQ := hidE hq
      have HZ := hidE (bd_max HD.out (by omega) hlast)
      subst e9
      generalize vs[l.length - 1] = q at *
      have HML := hidE hml
      have ww : IntKind.i64.wrap ((l.length : Int) - 1) = (l.length : Int) - 1 := wrapIn2 _ (by omega) (by omega)
      have hge : ¬ ((vs.length : Int) < (l.length : Int)) := by omega
      have hin : (0 : Int) ≤ (l.length : Int) - 1 ∧ (l.length : Int) - 1 < (vs.length : Int) := by omega
      unfold maxLen at l2
      clear HS HO hlt hm hq
      go_wp2_with fail
      go_ret
      rw [HQ.out]
      exact ⟨rfl, HB.out, HZ.out⟩
end Go.Proofs.YteaanpdckkmjoaaGreatDoor
/- The library's contract on strings.Join, laid at this seat's translation: a table of numbers and one application. Conditions: as the contract says. -/
namespace Go.Proofs
open Go.Shelf
def Tryz.lays156_ren : Go.Shelf.Ren := ⟨fun | 156 => 24 | 165 => 43 | 166 => 44 | 169 => 45 | 240 => 68 | 241 => 69 | 276 => 89 | 277 => 90 | n => n, fun | 31 => 52 | 9 => 9 | 3 => 3 | 4 => 4 | 0 => 0 | 20 => 20 | 72 => 85 | 76 => 79 | 70 => 82 | 37 => 83 | 75 => 31 | 127 => 107 | 164 => 121 | 5 => 5 | 80 => 87 | n => n, fun | n => n⟩
theorem Tryz.lays156 : Go.Proofs.Lays.n156 Tryz.prog Tryz.lays156_ren := {
  mixed := by kernel_rfl
  f156 := Tryz.func24.trans (congrArg some (by kernel_rfl))
  f165 := Tryz.func43.trans (congrArg some (by kernel_rfl))
  f166 := Tryz.func44.trans (congrArg some (by kernel_rfl))
  f169 := Tryz.func45.trans (congrArg some (by kernel_rfl))
  f240 := Tryz.func68.trans (congrArg some (by kernel_rfl))
  f241 := Tryz.func69.trans (congrArg some (by kernel_rfl))
  f276 := Tryz.func89.trans (congrArg some (by kernel_rfl))
  f277 := Tryz.func90.trans (congrArg some (by kernel_rfl))
  t0 := Tryz.underlying0
  a0 := Tryz.isAgg0
  z0 := Tryz.sizeOf0
  v0 := Tryz.zeroValue0
  t3 := Tryz.underlying3
  a3 := Tryz.isAgg3
  z3 := Tryz.sizeOf3
  v3 := Tryz.zeroValue3
  t4 := Tryz.underlying4
  a4 := Tryz.isAgg4
  z4 := Tryz.sizeOf4
  v4 := Tryz.zeroValue4
  t9 := Tryz.underlying9
  a9 := Tryz.isAgg9
  z9 := Tryz.sizeOf9
  v9 := Tryz.zeroValue9
  t20 := Tryz.underlying20
  a20 := Tryz.isAgg20
  z20 := Tryz.sizeOf20
  v20 := Tryz.zeroValue20
  t31 := Tryz.underlying52
  a31 := Tryz.isAgg52
  z31 := Tryz.sizeOf52
  v31 := Tryz.zeroValue52
  t37 := Tryz.underlying83
  a37 := Tryz.isAgg83
  z37 := Tryz.sizeOf83
  v37 := Tryz.zeroValue83
  t70 := Tryz.underlying82
  a70 := Tryz.isAgg82
  z70 := Tryz.sizeOf82
  v70 := Tryz.zeroValue82
  t72 := Tryz.underlying85
  a72 := Tryz.isAgg85
  z72 := Tryz.sizeOf85
  v72 := Tryz.zeroValue85
  t75 := Tryz.underlying31
  a75 := Tryz.isAgg31
  z75 := Tryz.sizeOf31
  v75 := Tryz.zeroValue31
  t76 := Tryz.underlying79
  a76 := Tryz.isAgg79
  z76 := Tryz.sizeOf79
  v76 := Tryz.zeroValue79
  t127 := Tryz.underlying107
  a127 := Tryz.isAgg107
  z127 := Tryz.sizeOf107
  v127 := Tryz.zeroValue107
  t164 := Tryz.underlying121
  a164 := Tryz.isAgg121
  z164 := Tryz.sizeOf121
  v164 := Tryz.zeroValue121 }
theorem Tryz.Builder_Extra_156 : Builder.Extra Tryz.prog Tryz.lays156_ren := {
  sizeBuilder := by kernel_rfl
  liesBuilder := by kernel_rfl
  t5 := Tryz.underlying5
  a5 := Tryz.isAgg5
  z5 := Tryz.sizeOf5
  v5 := Tryz.zeroValue5
  infoByte := by kernel_rfl
  cellsByte := by kernel_rfl
  sizeByte := by kernel_rfl
  neB5 := by decide }
end Go.Proofs
/- The contracts of strings.Join at few texts and of query's aggText, over this seat's translation. Conditions: as named. -/
namespace Go.Proofs.YteaanpdckkmjoaaGreatDoor
open Go.ChangeShapes Go.WideShapes Go.ChangeAt Go.RowKit
set_option linter.unusedVariables false
set_option linter.unusedSimpArgs false

theorem lens_le : ∀ (r : List ByteArray) (B : Nat), (∀ x ∈ r, x.size ≤ B) → Lib.lens (r.map (·.data.toList)) ≤ r.length * B
  | [], B, _ => by simp [Lib.lens]
  | x :: r, B, h => by
    have ih := lens_le r B (fun y hy => h y (List.mem_cons_of_mem _ hy))
    have hx := h x (List.mem_cons_self ..)
    have e : Lib.lens ((x :: r).map (·.data.toList)) = x.data.toList.length + Lib.lens (r.map (·.data.toList)) := by simp [Lib.lens]
    rw [e, Lib.size_eq] at *
    have e2 : (x :: r).length * B = B + r.length * B := by rw [List.length_cons, Nat.succ_mul]; omega
    omega
theorem join_len (xs : List ByteArray) (h4 : xs.length ≤ 4) (hs : ∀ x ∈ xs, x.size ≤ 20500000000000) : (Lib.join (xs.map (·.data.toList)) [44, 32]).length ≤ 140737488355328 := by
  cases xs with
  | nil => simp [Lib.join_nil]
  | cons x r =>
    rw [List.map_cons, Lib.join_cons, List.length_append, Lib.joinTail_length]
    have h1 := lens_le r _ (fun y hy => hs y (List.mem_cons_of_mem _ hy))
    have h2 := hs x (List.mem_cons_self ..)
    rw [Lib.size_eq] at h2
    simp only [List.length_cons] at h4
    have h3 : r.length * 20500000000000 ≤ 3 * 20500000000000 := Nat.mul_le_mul_right _ (by omega)
    simp only [List.length_map, List.length_cons, List.length_nil]
    omega
theorem join_any (xs : List ByteArray) (ao : Option Addr) (cap : Nat) (w : World) (h : RowG w (.slice ao xs.length cap) 1 xs.length (xs.map Value.string)) (h0 : 0 < xs.length) (h4 : xs.length ≤ 4) (hs : ∀ x ∈ xs, x.size ≤ 20500000000000) :
    Calls Tryz.prog 24 #[.slice ao xs.length cap, .string ⟨#[44, 32]⟩] w fun e w' => e = .returned (.string ⟨(Lib.join (xs.map (·.data.toList)) [44, 32]).toArray⟩) ∧ Below w.heap.size w w' := by
  obtain ⟨-, h⟩ := h
  rcases h with ⟨-, h⟩ | ⟨g, off, cap', e, h1, h2, h3, h5⟩
  · omega
  · simp only [Value.slice.injEq] at e
    obtain ⟨rfl, -, rfl⟩ := e
    exact Any.strings_Join Tryz.lays156 Tryz.Builder_Extra_156 g off cap xs ⟨#[44, 32]⟩ w (fun j x hx => by
      have hj := (List.getElem?_eq_some_iff.1 hx).1
      rw [h5 j (by omega)]
      simp [hx]) h3 (by omega) h1 (join_len xs h4 hs)
theorem name_any (k : Int) (h1 : 2 ≤ k) (h2 : k ≤ 5) (w : World) : Calls Tryz.prog 42 #[.int .i64 k] w fun r w' => r = .returned (.string (nmB k)) ∧ Below w.heap.size w w' := by
  have : k = 2 ∨ k = 3 ∨ k = 4 ∨ k = 5 := by omega
  rcases this with rfl | rfl | rfl | rfl
  · exact name_2 w
  · exact name_3 w
  · exact name_4 w
  · exact name_5 w
theorem nmB_size (k : Int) : (nmB k).size ≤ 5 := by
  unfold nmB
  repeat' split
  all_goals decide
set_option maxRecDepth 100000 in
set_option maxHeartbeats 8000000 in
theorem atext_one (l : List Nd) (a : Option Addr) (n c : Nat) (w : World) :
    Calls Tryz.prog 23 #[.agg #[.int .i64 1, .slice a n c]] w fun e w' => e = .returned (.string (agB ⟨1, l⟩)) ∧ Below w.heap.size w w' ∧ (agB ⟨1, l⟩).size ≤ 20500000000000 := by
  have ba := below_alloc w (.cells #[.int .i64 1, .slice a n c] 46)
  have BA := hidE ba
  clear ba
  go_enter Tryz.func23, Tryz.ntmps23
  go_wp2_with fail
  go_ret
  exact ⟨rfl, BA.out, by show 8 ≤ _; decide⟩
set_option maxRecDepth 100000 in
set_option maxHeartbeats 8000000 in
theorem atext_more (k : Int) (h2 : 2 ≤ k) (h5 : k ≤ 5) (l : List Nd) (cap : Nat) (ao : Option Addr) (hc : chkE l = 0) (w : World) (hr : NodG w (.slice ao l.length cap) l) (ht : TabQ w) :
    Calls Tryz.prog 23 #[.agg #[.int .i64 k, .slice ao l.length cap]] w fun e w' => e = .returned (.string (agB ⟨k, l⟩)) ∧ Below w.heap.size w w' ∧ (agB ⟨k, l⟩).size ≤ 20500000000000 := by
  have ba := below_alloc w (.cells #[.int .i64 k, .slice ao l.length cap] 46)
  have BA := hidE ba
  have BN := blk_alloc w [.int .i64 k, .slice ao l.length cap] 46
  have n0 := BN.c 0 (by simp)
  have n1 := BN.c 1 (by simp)
  simp only [List.getElem?_cons_zero, List.getElem?_cons_succ] at n0 n1
  have lgn := BN.lt
  have k1 : (k == 1) = false := by simp; omega
  have hsn := nmB_size k
  have ea : Hid (agB ⟨k, l⟩ = nmB k ++ ⟨#[40]⟩ ++ txL l ++ ⟨#[41]⟩) := by show _ = _; unfold agB; rw [if_neg (by simp; omega)]
  have ET : Hid (∀ w', Below (w.alloc (.cells #[.int .i64 k, .slice ao l.length cap] 46)).heap.size (w.alloc (.cells #[.int .i64 k, .slice ao l.length cap] 46)) w' → Calls Tryz.prog 25 #[.slice ao l.length cap] w' fun e w'' => e = .returned (.string (txL l)) ∧ Below w'.heap.size w' w'' ∧ (txL l).size ≤ 20400000000000) := fun w' hb =>
    etext_any l _ w' hc (nodG_below (nodG_below hr ba) hb) ((ht.below ba).below hb)
  rw [ea.out]
  clear ba hr ht BN hc ea
  generalize txL l = tx at *
  go_enter Tryz.func23, Tryz.ntmps23
  go_wp2_with fail
  generalize w.alloc (.cells #[.int .i64 k, .slice ao l.length cap] 46) = w0 at *
  have hS : Below w0.heap.size w0 ({ w0 with drawn := w0.drawn + 1 } : World) := (Below.refl _ _).drew
  refine wp_region_held (S := fun w' => Below w0.heap.size w0 w') (by kernel_rfl) ?_
  generalize ({ w0 with drawn := w0.drawn + 1 } : World) = wd at *
  refine held_take (i := 0) (v := .pointer (some ⟨w.heap.size, 0, none⟩)) (L := #[true, false, false, false, false, false, false, false, false, false]) rfl (by kernel_rfl) (by kernel_rfl) (by kernel_rfl) (fun c a w h => h) (Or.inl ⟨by kernel_rfl, fun wq hq => by go_simp⟩) hS (by kernel_rfl) ?_
  refine held_take (i := 1) (v := .int .i64 k) (L := #[true, true, false, false, false, false, false, false, false, false]) rfl (by kernel_rfl) (by kernel_rfl) (by kernel_rfl) (fun c a w h => h) (Or.inl ⟨by kernel_rfl, fun wq hq => by have q9 := hq.cell (p := ⟨w.heap.size, 0, none⟩) lgn; rw [n0] at q9; go_simp⟩) hS (by kernel_rfl) ?_
  refine held_take (i := 4) (v := .pointer (some ⟨w.heap.size, 1, none⟩)) (L := #[true, true, false, false, true, false, false, false, false, false]) rfl (by kernel_rfl) (by kernel_rfl) (by kernel_rfl) (fun c a w h => h) (Or.inl ⟨by kernel_rfl, fun wq hq => by go_simp⟩) hS (by kernel_rfl) ?_
  refine held_take (i := 5) (v := .slice ao l.length cap) (L := #[true, true, false, false, true, true, false, false, false, false]) rfl (by kernel_rfl) (by kernel_rfl) (by kernel_rfl) (fun c a w h => h) (Or.inl ⟨by kernel_rfl, fun wq hq => by have q9 := hq.cell (p := ⟨w.heap.size, 1, none⟩) lgn; rw [n1] at q9; go_simp⟩) hS (by kernel_rfl) ?_
  refine held_go (i := 2) (L := #[true, true, true, false, true, true, false, false, false, false]) (by kernel_rfl) rfl (by kernel_rfl) (by kernel_rfl) ?_
  intro K' hK
  go_simp
  refine (name_any k h2 h5 _).mono ?_
  rintro e w1 ⟨rfl, hb1⟩
  have hS1 := hS.trans (hb1.mono hS.size)
  have EX := hidE (ET.out w1 hS1)
  clear ET
  refine hK _ _ ⟨hS1, ?_⟩
  clear hK hb1
  refine held_take (i := 3) (v := .string (nmB k ++ ⟨#[40]⟩)) (L := #[true, true, true, true, true, true, false, false, false, false]) rfl (by kernel_rfl) (by kernel_rfl) (by kernel_rfl) (fun c a w h => h) (Or.inl ⟨by kernel_rfl, fun wq hq => by first | (go_simp; done) | (go_simp; omega) | (go_simp; simp only [ByteArray.size_append]; omega)⟩) hS1 (by kernel_rfl) ?_
  refine held_go (i := 6) (L := #[true, true, true, true, true, true, true, false, false, false]) (by kernel_rfl) rfl (by kernel_rfl) (by kernel_rfl) ?_
  intro K' hK
  go_simp
  refine EX.out.mono ?_
  rintro e w2 ⟨rfl, hb2, hsz⟩
  have hS2 := hS1.trans (hb2.mono hS1.size)
  have HSZ := hidE hsz
  refine hK _ _ ⟨hS2, ?_⟩
  clear hK hb2 EX
  refine held_take (i := 7) (v := .string (nmB k ++ ⟨#[40]⟩ ++ tx)) (L := #[true, true, true, true, true, true, true, true, false, false]) rfl (by kernel_rfl) (by kernel_rfl) (by kernel_rfl) (fun c a w h => h) (Or.inl ⟨by kernel_rfl, fun wq hq => by first | (go_simp; done) | (go_simp; omega) | (go_simp; simp only [ByteArray.size_append]; omega)⟩) hS2 (by kernel_rfl) ?_
  refine held_take (i := 8) (v := .string (nmB k ++ ⟨#[40]⟩ ++ tx ++ ⟨#[41]⟩)) (L := #[true, true, true, true, true, true, true, true, true, false]) rfl (by kernel_rfl) (by kernel_rfl) (by kernel_rfl) (fun c a w h => h) (Or.inl ⟨by kernel_rfl, fun wq hq => by first | (go_simp; done) | (go_simp; omega) | (go_simp; simp only [ByteArray.size_append]; omega)⟩) hS2 (by kernel_rfl) ?_
  refine held_go (i := 9) (L := #[true, true, true, true, true, true, true, true, true, true]) (by kernel_rfl) rfl (by kernel_rfl) (by kernel_rfl) ?_
  intro K' hK
  go_simp
  refine hK _ _ ⟨hS2, ?_⟩
  clear hK
  refine wpAnyH_done (by kernel_rfl) ?_ _
  have BZ := hidE (BA.out.trans (hS2.mono BA.out.size))
  have hz : (nmB k ++ ⟨#[40]⟩ ++ tx ++ ⟨#[41]⟩).size ≤ 20500000000000 := by
    have h9 := HSZ.out
    have e1 : (⟨#[40]⟩ : ByteArray).size = 1 := rfl
    have e2 : (⟨#[41]⟩ : ByteArray).size = 1 := rfl
    simp only [ByteArray.size_append, e1, e2]
    omega
  have HZ := hidE hz
  clear hS hS1 hS2 hz
  go_wp2_with fail
  go_ret
  exact ⟨rfl, BZ.out, HZ.out⟩
theorem atext_any (a : AgQ) (v : Value) (w : World) (hc : chkA a = 0) (hr : NodG w v a.of) (ht : TabQ w) :
    Calls Tryz.prog 23 #[.agg #[.int .i64 a.kind, v]] w fun e w' => e = .returned (.string (agB a)) ∧ Below w.heap.size w w' ∧ (agB a).size ≤ 20500000000000 := by
  obtain ⟨k, l⟩ := a
  obtain ⟨ao, cap, rfl⟩ := rowG_shape hr
  by_cases h1 : k = 1
  · subst h1
    exact atext_one l _ _ _ w
  · unfold chkA at hc
    by_cases h0 : k < 1 ∨ 5 < k
    · rw [if_pos h0] at hc; exact absurd hc (by decide)
    · rw [if_neg h0, if_neg h1] at hc
      have hk : chkE l = 0 := by
        by_cases h9 : chkE l = 0
        · exact h9
        · exfalso
          have e : (kindQ l).2 = chkE l := by unfold kindQ; rw [if_pos h9]
          simp only [e] at hc
          rw [if_pos h9] at hc
          exact h9 hc
      exact atext_more k (by omega) (by omega) l cap ao hk w hr ht
end Go.Proofs.YteaanpdckkmjoaaGreatDoor

/- The law TopDisk's loop of what is wanted, over this seat's translation. Conditions: as named. -/
import Derived.Test.YtoihjhhambgpfacTDk
namespace Go.Proofs.Ytoihjhhambgpfac
open Go.ChangeShapes Go.WideShapes Go.ChangeAt Go.RowKit
set_option linter.unusedVariables false
set_option linter.unusedSimpArgs false

theorem want_set (ss : List Sec) (h4 : ss.length = 4) (m : Nat) (hm : m < 4) : (((ss.take m).map fun s => strB (textS s)) ++ List.replicate (4 - m) (Value.string ⟨#[]⟩)).set m (strB (textS (ss[m]'(by omega)))) = (((ss.take (m + 1)).map fun s => strB (textS s)) ++ List.replicate (4 - (m + 1)) (Value.string ⟨#[]⟩)) := by
  have h1 : ((ss.take m).map fun s => strB (textS s)).length = m := by rw [List.length_map, List.length_take]; omega
  rw [List.set_append_right _ _ (by omega), h1, Nat.sub_self, List.take_add_one, List.getElem?_eq_getElem (by omega), List.map_append]
  obtain ⟨k, hk⟩ : ∃ k, 4 - m = k + 1 := ⟨3 - m, by omega⟩
  rw [hk, show 4 - (m + 1) = k from by omega, List.replicate_succ]
  simp
theorem want_len (ss : List Sec) (h4 : ss.length = 4) (m : Nat) (hm : m ≤ 4) : (((ss.take m).map fun s => strB (textS s)) ++ List.replicate (4 - m) (Value.string ⟨#[]⟩)).length = 4 := by
  rw [List.length_append, List.length_map, List.length_take, List.length_replicate]
  omega
set_option maxRecDepth 100000 in
set_option maxHeartbeats 8000000 in
theorem loopT2 (Q : Exit → Act → World → Prop) (C : Code) (hC : stm 14 (Try.f4.body.getD .skip) = some C) (u0 u1 u2 u3 u4 u5 u6 u8 u9 u12 u13 u14 u15 u16 u17 u18 u19 u20 u21 u22 u23 u24 u25 u26 u27 u28 u29 u30 u31 u32 u33 u34 u35 u36 u37 u38 u39 u40 u41 u42 u43 u44 u45 u46 u47 u48 u49 u50 u51 u52 u53 u54 u55 u56 u57 u58 u59 u60 u61 u62 u63 u64 u65 u66 u67 u68 u69 u70 u71 u72 u73 u74 u75 u76 u77 u78 u79 u80 u81 u82 u83 u84 u85 u86 u87 u88 u89 u90 u91 u92 u93 u94 u95 u96 u97 u98 u99 u100 u101 u102 u103 u104 u105 u106 u107 u108 u109 u110 u111 u112 u113 u114 u115 u116 u117 u118 u119 u120 u121 u122 u123 u124 u125 u126 u127 u128 u129 u130 u131 u132 u133 u134 u135 u136 u137 u138 u139 u140 u141 u142 u143 u144 u145 u146 u147 u148 u149 u150 u151 : Value) (gd gs gq : Nat) (n : Int) (ss : List Sec) (W w1 : World)
    (h : TD W w1 gd gs n ss) (hq : BlkAt w1 gq (((ss.take 0).map fun s => strB (textS s)) ++ List.replicate (4 - 0) (Value.string ⟨#[]⟩))) (hnb : ¬ dskBad gd gs ss gq) (hlo : W.heap.size ≤ gq)
    (hpan : ∀ c a a' w, Q (.panic c) a w → Q (.panic c) a' w)
    (hQ : ∀ (v6 v11 v12 v13 v70 v71 v72 v73 v74 v75 v76 v77 v78 v79 v80 v81 v82 v83 v84 : Value) w', TD W w' gd gs n ss → BlkAt w' gq (ss.map fun s => strB (textS s)) → Q .normal { tmps := (u0 :: u1 :: u2 :: u3 :: u4 :: u5 :: v6 :: .pointer (some ⟨gd, 0, none⟩) :: u8 :: u9 :: .pointer (some ⟨gq, 0, none⟩) :: v11 :: v12 :: v13 :: u14 :: u15 :: u16 :: u17 :: u18 :: u19 :: u20 :: u21 :: u22 :: u23 :: u24 :: u25 :: u26 :: u27 :: u28 :: u29 :: u30 :: u31 :: u32 :: u33 :: u34 :: u35 :: u36 :: u37 :: u38 :: u39 :: u40 :: u41 :: u42 :: u43 :: u44 :: u45 :: u46 :: u47 :: u48 :: u49 :: u50 :: u51 :: u52 :: u53 :: u54 :: u55 :: u56 :: u57 :: u58 :: u59 :: u60 :: u61 :: u62 :: u63 :: u64 :: u65 :: u66 :: u67 :: u68 :: u69 :: v70 :: v71 :: v72 :: v73 :: v74 :: v75 :: v76 :: v77 :: v78 :: v79 :: v80 :: v81 :: v82 :: v83 :: v84 :: u85 :: u86 :: u87 :: u88 :: u89 :: u90 :: u91 :: u92 :: u93 :: u94 :: u95 :: u96 :: u97 :: u98 :: u99 :: u100 :: u101 :: u102 :: u103 :: u104 :: u105 :: u106 :: u107 :: u108 :: u109 :: u110 :: u111 :: u112 :: u113 :: u114 :: u115 :: u116 :: u117 :: u118 :: u119 :: u120 :: u121 :: u122 :: u123 :: u124 :: u125 :: u126 :: u127 :: u128 :: u129 :: u130 :: u131 :: u132 :: u133 :: u134 :: u135 :: u136 :: u137 :: u138 :: u139 :: u140 :: u141 :: u142 :: u143 :: u144 :: u145 :: u146 :: u147 :: u148 :: u149 :: u150 :: u151 :: []).toArray, defers := [] } w') :
    Code.wp Try.prog C Q { tmps := (u0 :: u1 :: u2 :: u3 :: u4 :: u5 :: u6 :: .pointer (some ⟨gd, 0, none⟩) :: u8 :: u9 :: .pointer (some ⟨gq, 0, none⟩) :: .int .i64 0 :: u12 :: u13 :: u14 :: u15 :: u16 :: u17 :: u18 :: u19 :: u20 :: u21 :: u22 :: u23 :: u24 :: u25 :: u26 :: u27 :: u28 :: u29 :: u30 :: u31 :: u32 :: u33 :: u34 :: u35 :: u36 :: u37 :: u38 :: u39 :: u40 :: u41 :: u42 :: u43 :: u44 :: u45 :: u46 :: u47 :: u48 :: u49 :: u50 :: u51 :: u52 :: u53 :: u54 :: u55 :: u56 :: u57 :: u58 :: u59 :: u60 :: u61 :: u62 :: u63 :: u64 :: u65 :: u66 :: u67 :: u68 :: u69 :: u70 :: u71 :: u72 :: u73 :: u74 :: u75 :: u76 :: u77 :: u78 :: u79 :: u80 :: u81 :: u82 :: u83 :: u84 :: u85 :: u86 :: u87 :: u88 :: u89 :: u90 :: u91 :: u92 :: u93 :: u94 :: u95 :: u96 :: u97 :: u98 :: u99 :: u100 :: u101 :: u102 :: u103 :: u104 :: u105 :: u106 :: u107 :: u108 :: u109 :: u110 :: u111 :: u112 :: u113 :: u114 :: u115 :: u116 :: u117 :: u118 :: u119 :: u120 :: u121 :: u122 :: u123 :: u124 :: u125 :: u126 :: u127 :: u128 :: u129 :: u130 :: u131 :: u132 :: u133 :: u134 :: u135 :: u136 :: u137 :: u138 :: u139 :: u140 :: u141 :: u142 :: u143 :: u144 :: u145 :: u146 :: u147 :: u148 :: u149 :: u150 :: u151 :: []).toArray, defers := [] } w1 := by
  have HQ := hidE hQ
  have H0 := hidE h
  have HQ0 := hidE hq
  have h4 := h.l4
  have HNB := hidE hnb
  clear hQ h hq hnb hpan
  unfold Try.f4 at hC
  simp [stm, lead] at hC
  subst hC
  go_wp2_with fail
  go_loopw [11] (fun i wr => ∃ (m : Nat), m ≤ 4 ∧ i = .int .i64 m ∧ Hid (TD W wr gd gs n ss) ∧ Hid (BlkAt wr gq (((ss.take m).map fun s => strB (textS s)) ++ List.replicate (4 - m) (Value.string ⟨#[]⟩)))) (fun i _ => 4 - (intOf i).toNat)
  case atStart => exact ⟨0, Nat.zero_le _, rfl, H0, HQ0⟩
  case round =>
    obtain ⟨m, hm, rfl, HT, HW⟩ := hrel
    by_cases hlt : m < 4
    · have d4 : decide ((m : Int) < 4) = true := by simp; omega
      have RD := hidE (read_in m W.heap.size gd gs n (-1) ss wr HT.out.dk (by omega) (by omega))
      have WS := hidE (want_set ss h4 m hlt)
      have WL := hidE (want_len ss h4 m hm)
      have sx : ∃ sx, strB (textS (ss[m]'(by omega))) = .string sx := ⟨_, rfl⟩
      obtain ⟨sx, hsx⟩ := sx
      rw [hsx] at RD WS
      clear hsx
      go_wp2_with fail
      refine RD.out.mono ?_
      rintro e w2 ⟨rfl, hb⟩
      have HT2 := hidE (td_below HT.out hb)
      have HW2 := hidE (blk_below HW.out hb HW.out.lt)
      clear hb RD HT HW
      obtain ⟨u, hu⟩ : ∃ u, w2.cell? ⟨gq, m, none⟩ = some u := by
        have := HW2.out.c m (by rw [WL.out]; exact hlt)
        rw [this]
        exact ⟨_, List.getElem?_eq_getElem (by rw [WL.out]; exact hlt)⟩
      have fz := HW2.out.fz m
      have HT3 := hidE (td_set HT2.out HNB.out hlo m (.string sx))
      have HW3 : Hid (BlkAt (w2.setCell ⟨gq, m, none⟩ (.string sx)) gq (((ss.take (m + 1)).map fun s => strB (textS s)) ++ List.replicate (4 - (m + 1)) (Value.string ⟨#[]⟩))) := by
        show BlkAt _ _ _
        rw [← WS.out]
        exact blk_set HW2.out m _ (by rw [WL.out]; exact hlt)
      clear WS WL HT2 HW2 d4
      go_wp2_with fail
      go_roundw
      case rel => exact ⟨m + 1, by omega, by go_num, HT3, HW3⟩
      case measure => simp [intOf]; omega
    · have hme : m = 4 := by omega
      subst hme
      have e4 : (((ss.take 4).map fun s => strB (textS s)) ++ List.replicate (4 - 4) (Value.string ⟨#[]⟩)) = ss.map fun s => strB (textS s) := by
        rw [List.take_of_length_le (by omega)]
        simp
      rw [e4] at HW
      clear e4
      go_wp2_with fail
      exact HQ.out _ _ _ _ _ _ _ _ _ _ _ _ _ _ _ _ _ _ _ wr HT.out HW.out
end Go.Proofs.Ytoihjhhambgpfac

/- The law TopDisk's last loop, over this seat's translation. Conditions: as named. -/
import Derived.Test.YtoihjhhambgpfacTDk
namespace Go.Proofs.Ytoihjhhambgpfac
open Go.ChangeShapes Go.WideShapes Go.ChangeAt Go.RowKit
set_option linter.unusedVariables false
set_option linter.unusedSimpArgs false

set_option maxRecDepth 100000 in
set_option maxHeartbeats 8000000 in
theorem loopT4 (Q : Exit → Act → World → Prop) (C : Code) (hC : stm 33 (Try.f4.body.getD .skip) = some C) (u0 u1 u2 u3 u4 u5 u6 u8 u9 u11 u12 u13 u14 u15 u16 u17 u19 u20 u21 u22 u23 u24 u25 u26 u27 u28 u29 u30 u31 u32 u33 u34 u35 u36 u37 u38 u39 u40 u41 u42 u43 u44 u45 u46 u47 u48 u49 u50 u51 u52 u53 u54 u55 u56 u57 u58 u59 u60 u61 u62 u63 u64 u65 u66 u67 u68 u69 u70 u71 u72 u73 u74 u75 u76 u77 u78 u79 u80 u81 u82 u83 u84 u85 u86 u87 u88 u89 u90 u91 u92 u93 u94 u95 u96 u97 u98 u99 u100 u101 u102 u103 u104 u105 u106 u107 u108 u109 u110 u111 u112 u113 u114 u115 u116 u117 u118 u119 u120 u121 u122 u123 u124 u125 u126 u127 u128 u129 u130 u131 u132 u133 u134 u135 u136 u137 u138 u139 u140 u141 u142 u143 u144 u145 u146 u147 u148 u149 u150 u151 : Value) (gd gs gq : Nat) (n : Int) (ss : List Sec) (W w1 : World)
    (h : TD W w1 gd gs n ss) (hq : BlkAt w1 gq (ss.map fun s => strB (textS s)))
    (hpan : ∀ c a a' w, Q (.panic c) a w → Q (.panic c) a' w)
    (hQ : ∀ (v6 v18 v19 v20 v133 v134 v135 v136 v137 v138 v139 v140 v141 v142 v143 v144 v145 v146 v147 v148 v149 v150 v151 : Value) w', Below W.heap.size W w' → Q .normal { tmps := (u0 :: u1 :: u2 :: u3 :: u4 :: u5 :: v6 :: .pointer (some ⟨gd, 0, none⟩) :: u8 :: u9 :: .pointer (some ⟨gq, 0, none⟩) :: u11 :: u12 :: u13 :: u14 :: u15 :: u16 :: u17 :: v18 :: v19 :: v20 :: u21 :: u22 :: u23 :: u24 :: u25 :: u26 :: u27 :: u28 :: u29 :: u30 :: u31 :: u32 :: u33 :: u34 :: u35 :: u36 :: u37 :: u38 :: u39 :: u40 :: u41 :: u42 :: u43 :: u44 :: u45 :: u46 :: u47 :: u48 :: u49 :: u50 :: u51 :: u52 :: u53 :: u54 :: u55 :: u56 :: u57 :: u58 :: u59 :: u60 :: u61 :: u62 :: u63 :: u64 :: u65 :: u66 :: u67 :: u68 :: u69 :: u70 :: u71 :: u72 :: u73 :: u74 :: u75 :: u76 :: u77 :: u78 :: u79 :: u80 :: u81 :: u82 :: u83 :: u84 :: u85 :: u86 :: u87 :: u88 :: u89 :: u90 :: u91 :: u92 :: u93 :: u94 :: u95 :: u96 :: u97 :: u98 :: u99 :: u100 :: u101 :: u102 :: u103 :: u104 :: u105 :: u106 :: u107 :: u108 :: u109 :: u110 :: u111 :: u112 :: u113 :: u114 :: u115 :: u116 :: u117 :: u118 :: u119 :: u120 :: u121 :: u122 :: u123 :: u124 :: u125 :: u126 :: u127 :: u128 :: u129 :: u130 :: u131 :: u132 :: v133 :: v134 :: v135 :: v136 :: v137 :: v138 :: v139 :: v140 :: v141 :: v142 :: v143 :: v144 :: v145 :: v146 :: v147 :: v148 :: v149 :: v150 :: v151 :: []).toArray, defers := [] } w') :
    Code.wp Try.prog C Q { tmps := (u0 :: u1 :: u2 :: u3 :: u4 :: u5 :: u6 :: .pointer (some ⟨gd, 0, none⟩) :: u8 :: u9 :: .pointer (some ⟨gq, 0, none⟩) :: u11 :: u12 :: u13 :: u14 :: u15 :: u16 :: u17 :: .int .i64 0 :: u19 :: u20 :: u21 :: u22 :: u23 :: u24 :: u25 :: u26 :: u27 :: u28 :: u29 :: u30 :: u31 :: u32 :: u33 :: u34 :: u35 :: u36 :: u37 :: u38 :: u39 :: u40 :: u41 :: u42 :: u43 :: u44 :: u45 :: u46 :: u47 :: u48 :: u49 :: u50 :: u51 :: u52 :: u53 :: u54 :: u55 :: u56 :: u57 :: u58 :: u59 :: u60 :: u61 :: u62 :: u63 :: u64 :: u65 :: u66 :: u67 :: u68 :: u69 :: u70 :: u71 :: u72 :: u73 :: u74 :: u75 :: u76 :: u77 :: u78 :: u79 :: u80 :: u81 :: u82 :: u83 :: u84 :: u85 :: u86 :: u87 :: u88 :: u89 :: u90 :: u91 :: u92 :: u93 :: u94 :: u95 :: u96 :: u97 :: u98 :: u99 :: u100 :: u101 :: u102 :: u103 :: u104 :: u105 :: u106 :: u107 :: u108 :: u109 :: u110 :: u111 :: u112 :: u113 :: u114 :: u115 :: u116 :: u117 :: u118 :: u119 :: u120 :: u121 :: u122 :: u123 :: u124 :: u125 :: u126 :: u127 :: u128 :: u129 :: u130 :: u131 :: u132 :: u133 :: u134 :: u135 :: u136 :: u137 :: u138 :: u139 :: u140 :: u141 :: u142 :: u143 :: u144 :: u145 :: u146 :: u147 :: u148 :: u149 :: u150 :: u151 :: []).toArray, defers := [] } w1 := by
  have HQ := hidE hQ
  have H0 := hidE h
  have HQ0 := hidE hq
  have h4 := h.l4
  clear hQ h hq hpan
  unfold Try.f4 at hC
  simp [stm, lead] at hC
  subst hC
  go_wp2_with fail
  go_loopw [18] (fun i wr => ∃ (m : Nat), m ≤ 4 ∧ i = .int .i64 m ∧ Hid (TD W wr gd gs n ss) ∧ Hid (BlkAt wr gq (ss.map fun s => strB (textS s)))) (fun i _ => 4 - (intOf i).toNat)
  case atStart => exact ⟨0, Nat.zero_le _, rfl, H0, HQ0⟩
  case round =>
    obtain ⟨m, hm, rfl, HT, HW⟩ := hrel
    by_cases hlt : m < 4
    · have d4 : decide ((m : Int) < 4) = true := by simp; omega
      have hms : m < ss.length := by omega
      have RD := hidE (read_in m W.heap.size gd gs n (-1) ss wr HT.out.dk hms (by omega))
      have EC : Hid ((ss.map fun s => strB (textS s))[m]? = some (strB (textS ss[m]))) := by
        show _ = _
        rw [List.getElem?_map, List.getElem?_eq_getElem hms]
        rfl
      have sx : ∃ sx, strB (textS ss[m]) = .string sx := ⟨_, rfl⟩
      obtain ⟨sx, hsx⟩ := sx
      rw [hsx] at RD EC

      clear hsx
      go_wp2_with fail
      refine RD.out.mono ?_
      rintro e w2 ⟨rfl, hb⟩
      have HT2 := hidE (td_below HT.out hb)
      have HW2 := hidE (blk_below HW.out hb HW.out.lt)
      have cq : w2.cell? ⟨gq, m, none⟩ = some (.string sx) := by
        rw [HW2.out.c m (by rw [List.length_map]; exact hms)]
        exact EC.out
      clear hb RD HT HW d4 EC
      go_wp2_with fail
      go_roundw
      case rel => exact ⟨m + 1, by omega, by go_num, HT2, HW2⟩
      case measure => simp [intOf]; omega
    · have hme : m = 4 := by omega
      subst hme
      go_wp2_with fail
      exact HQ.out _ _ _ _ _ _ _ _ _ _ _ _ _ _ _ _ _ _ _ _ _ _ _ wr HT.out.bl
end Go.Proofs.Ytoihjhhambgpfac

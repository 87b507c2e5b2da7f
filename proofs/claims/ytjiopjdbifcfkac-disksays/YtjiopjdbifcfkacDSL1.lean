/- The law DiskSays's switch, over this seat's translation. Conditions: as named. -/
import Derived.Test.YtjiopjdbifcfkacDSk
namespace Go.Proofs.Ytjiopjdbifcfkac
open Go.ChangeShapes Go.WideShapes Go.ChangeAt Go.RowKit
set_option linter.unusedVariables false
set_option linter.unusedSimpArgs false

set_option maxRecDepth 100000 in
set_option maxHeartbeats 8000000 in
theorem swW (Q : Exit → Act → World → Prop) (C : Code) (hC : stm 18 (Try.f3.body.getD .skip) = some C) (u0 u1 u2 u3 u4 u5 u7 u9 u10 u13 u14 u15 u16 u17 u18 u19 u20 u21 u22 u23 u24 u25 u26 u27 u28 u29 u30 u31 u32 u33 u34 u35 u36 u37 u38 u39 u40 u41 u42 u43 u44 u45 u46 u47 u48 u49 u50 u51 u52 u53 u54 u55 u56 u57 u58 u59 u60 u61 u62 u63 u64 u65 u66 u67 u68 u69 u70 u71 u72 u74 u75 u76 u77 u78 u79 u80 u81 u82 u83 u84 u85 u86 u87 u88 u89 u90 u91 u92 u93 u94 u95 u96 u97 u98 u99 u100 u101 u102 u103 u104 u105 u106 u107 u108 u109 u110 u111 u112 u113 u114 u115 u116 u117 u118 u119 u120 u121 u122 u123 u124 u125 u126 u127 u128 u129 u130 u131 u132 u133 u134 u135 u136 u137 u138 u139 u140 u141 u142 u143 u144 u145 u146 u147 u148 u149 u150 u151 u152 u153 u154 u155 u156 u157 u158 u159 u160 u161 u162 u163 u164 u165 u166 u167 u168 u169 u170 u171 u172 u173 u174 u175 u176 : Value) (x : Act1) (gd gs Br gr ga n m : Nat) (G : Gh) (W w : World) (hd_write : (x.kind.toList == [119, 114, 105, 116, 101]) = true)
    (hn : n ≤ 160) (hn0 : 1 ≤ n) (hm : m ≤ 80) (hx : x.s.size ≤ 3000) (hk : 0 ≤ x.k ∧ x.k ≤ 18446744073709551615) (hxa : x.a ≤ 9223372036854775807) (h : DD W w n gd gs Br gr m G) (hb : BlkAt w ga (cellsAct x)) (hnb : ¬ dskBad gd gs G.ss ga ∧ ¬ refBad gr G.kv G.nv G.tv ga)
    (hpan : ∀ c a a' w, Q (.panic c) a w → Q (.panic c) a' w)
    (hQ : ∀ (v13 v14 v15 v16 v74 v75 v76 v77 v78 v79 v80 v81 v82 v83 v84 v85 v86 v87 v88 v89 v90 v91 v92 v93 v94 v95 v96 v97 v98 v99 v100 v101 v102 v103 v104 v105 v106 v107 v108 v109 v110 v111 v112 v113 v114 v115 v116 v117 v118 v119 v120 v121 v122 v123 v124 v125 v126 v127 v128 v129 v130 v131 v132 v133 v134 v135 v136 v137 v138 v139 : Value) (G' : Gh) (w' : World), DD W w' n gd gs Br gr (m + 1) G' → Q .normal { tmps := (u0 :: u1 :: u2 :: u3 :: u4 :: u5 :: .pointer (some ⟨gd, 0, none⟩) :: u7 :: .pointer (some ⟨gr, 0, none⟩) :: u9 :: u10 :: .pointer (some ⟨ga, 0, none⟩) :: .bool true :: v13 :: v14 :: v15 :: v16 :: u17 :: u18 :: u19 :: u20 :: u21 :: u22 :: u23 :: u24 :: u25 :: u26 :: u27 :: u28 :: u29 :: u30 :: u31 :: u32 :: u33 :: u34 :: u35 :: u36 :: u37 :: u38 :: u39 :: u40 :: u41 :: u42 :: u43 :: u44 :: u45 :: u46 :: u47 :: u48 :: u49 :: u50 :: u51 :: u52 :: u53 :: u54 :: u55 :: u56 :: u57 :: u58 :: u59 :: u60 :: u61 :: u62 :: u63 :: u64 :: u65 :: u66 :: u67 :: u68 :: u69 :: u70 :: u71 :: u72 :: .string x.kind :: v74 :: v75 :: v76 :: v77 :: v78 :: v79 :: v80 :: v81 :: v82 :: v83 :: v84 :: v85 :: v86 :: v87 :: v88 :: v89 :: v90 :: v91 :: v92 :: v93 :: v94 :: v95 :: v96 :: v97 :: v98 :: v99 :: v100 :: v101 :: v102 :: v103 :: v104 :: v105 :: v106 :: v107 :: v108 :: v109 :: v110 :: v111 :: v112 :: v113 :: v114 :: v115 :: v116 :: v117 :: v118 :: v119 :: v120 :: v121 :: v122 :: v123 :: v124 :: v125 :: v126 :: v127 :: v128 :: v129 :: v130 :: v131 :: v132 :: v133 :: v134 :: v135 :: v136 :: v137 :: v138 :: v139 :: u140 :: u141 :: u142 :: u143 :: u144 :: u145 :: u146 :: u147 :: u148 :: u149 :: u150 :: u151 :: u152 :: u153 :: u154 :: u155 :: u156 :: u157 :: u158 :: u159 :: u160 :: u161 :: u162 :: u163 :: u164 :: u165 :: u166 :: u167 :: u168 :: u169 :: u170 :: u171 :: u172 :: u173 :: u174 :: u175 :: u176 :: []).toArray, defers := [] } w') :
    Code.wp Try.prog C Q { tmps := (u0 :: u1 :: u2 :: u3 :: u4 :: u5 :: .pointer (some ⟨gd, 0, none⟩) :: u7 :: .pointer (some ⟨gr, 0, none⟩) :: u9 :: u10 :: .pointer (some ⟨ga, 0, none⟩) :: .bool true :: u13 :: u14 :: u15 :: u16 :: u17 :: u18 :: u19 :: u20 :: u21 :: u22 :: u23 :: u24 :: u25 :: u26 :: u27 :: u28 :: u29 :: u30 :: u31 :: u32 :: u33 :: u34 :: u35 :: u36 :: u37 :: u38 :: u39 :: u40 :: u41 :: u42 :: u43 :: u44 :: u45 :: u46 :: u47 :: u48 :: u49 :: u50 :: u51 :: u52 :: u53 :: u54 :: u55 :: u56 :: u57 :: u58 :: u59 :: u60 :: u61 :: u62 :: u63 :: u64 :: u65 :: u66 :: u67 :: u68 :: u69 :: u70 :: u71 :: u72 :: .string x.kind :: u74 :: u75 :: u76 :: u77 :: u78 :: u79 :: u80 :: u81 :: u82 :: u83 :: u84 :: u85 :: u86 :: u87 :: u88 :: u89 :: u90 :: u91 :: u92 :: u93 :: u94 :: u95 :: u96 :: u97 :: u98 :: u99 :: u100 :: u101 :: u102 :: u103 :: u104 :: u105 :: u106 :: u107 :: u108 :: u109 :: u110 :: u111 :: u112 :: u113 :: u114 :: u115 :: u116 :: u117 :: u118 :: u119 :: u120 :: u121 :: u122 :: u123 :: u124 :: u125 :: u126 :: u127 :: u128 :: u129 :: u130 :: u131 :: u132 :: u133 :: u134 :: u135 :: u136 :: u137 :: u138 :: u139 :: u140 :: u141 :: u142 :: u143 :: u144 :: u145 :: u146 :: u147 :: u148 :: u149 :: u150 :: u151 :: u152 :: u153 :: u154 :: u155 :: u156 :: u157 :: u158 :: u159 :: u160 :: u161 :: u162 :: u163 :: u164 :: u165 :: u166 :: u167 :: u168 :: u169 :: u170 :: u171 :: u172 :: u173 :: u174 :: u175 :: u176 :: []).toArray, defers := [] } w := by
  have HQ := hidE hQ
  have HPN := hidE hpan
  have lga := hb.lt
  have y1 : w.cell? ⟨ga, 1, none⟩ = some (.int .i64 x.a) := hb.c 1 (by simp [cellsAct])
  have y2 : w.cell? ⟨ga, 2, none⟩ = some (.string x.s) := hb.c 2 (by simp [cellsAct])
  have y3 : w.cell? ⟨ga, 3, none⟩ = some (.int .u64 x.k) := hb.c 3 (by simp [cellsAct])
  have hls := h.rel.ls
  have hln := h.rel.ln
  have hlk := h.rel.lk
  have hlt := h.rel.lt
  have HF := hidE h.rel.lf
  have H := hidE h
  have nga : ¬ (dskBad gd gs G.ss ga ∨ refBad gr G.kv G.nv G.tv ga) := fun e => e.elim hnb.1 hnb.2
  clear hQ hpan hb h hnb
  unfold Try.f3 at hC
  simp [stm, lead] at hC
  subst hC
  have WR := hidE (write_g x.a x.s W.heap.size gd gs G.bit G.left G.down G.ss ({ w with drawn := w.drawn + 1 } : World) (dskG_below H.out.dk (Below.refl _ _).drew) (by omega) (by have := H.out.rel.bt; omega) (fun s hs => by have := H.out.rel.lw s hs; omega) (by omega) H.out.rel.ll)
  have H0 := H
  have H : Hid (DD W ({ w with drawn := w.drawn + 1 } : World) n gd gs Br gr m G) := dd_below H0.out (Below.refl _ _).drew
  have hS : KeptB w ({ w with drawn := w.drawn + 1 } : World) (fun k => dskBad gd gs G.ss k ∨ refBad gr G.kv G.nv G.tv k) := keptB_of_below (Below.refl _ _).drew
  clear H0
  go_wp2_with fail
  refine wp_region_held (S := fun w' => KeptB w w' (fun k => dskBad gd gs G.ss k ∨ refBad gr G.kv G.nv G.tv k)) (by kernel_rfl) ?_
  generalize ({ w with drawn := w.drawn + 1 } : World) = wd at *
  refine held_take (i := 0) (v := .pointer (some ⟨gd, 0, none⟩)) (L := #[true, false, false, false, false, false, false, false, false, false, false, false, false, false]) rfl (by kernel_rfl) (by kernel_rfl) (by kernel_rfl) (fun c a w h => HPN.out c _ _ _ h) (Or.inl ⟨by kernel_rfl, fun wq hq => by go_simp⟩) hS (by kernel_rfl) ?_
  refine held_take (i := 1) (v := .pointer (some ⟨ga, 1, none⟩)) (L := #[true, true, false, false, false, false, false, false, false, false, false, false, false, false]) rfl (by kernel_rfl) (by kernel_rfl) (by kernel_rfl) (fun c a w h => HPN.out c _ _ _ h) (Or.inl ⟨by kernel_rfl, fun wq hq => by go_simp⟩) hS (by kernel_rfl) ?_
  refine held_take (i := 2) (v := .int .i64 x.a) (L := #[true, true, true, false, false, false, false, false, false, false, false, false, false, false]) rfl (by kernel_rfl) (by kernel_rfl) (by kernel_rfl) (fun c a w h => HPN.out c _ _ _ h) (Or.inl ⟨by kernel_rfl, fun wq hq => by have q := kept_cell hq 1 lga nga; rw [y1] at q; go_simp⟩) hS (by kernel_rfl) ?_
  refine held_take (i := 3) (v := .pointer (some ⟨ga, 2, none⟩)) (L := #[true, true, true, true, false, false, false, false, false, false, false, false, false, false]) rfl (by kernel_rfl) (by kernel_rfl) (by kernel_rfl) (fun c a w h => HPN.out c _ _ _ h) (Or.inl ⟨by kernel_rfl, fun wq hq => by go_simp⟩) hS (by kernel_rfl) ?_
  refine held_take (i := 4) (v := .string x.s) (L := #[true, true, true, true, true, false, false, false, false, false, false, false, false, false]) rfl (by kernel_rfl) (by kernel_rfl) (by kernel_rfl) (fun c a w h => HPN.out c _ _ _ h) (Or.inl ⟨by kernel_rfl, fun wq hq => by have q := kept_cell hq 2 lga nga; rw [y2] at q; go_simp⟩) hS (by kernel_rfl) ?_
  refine held_take (i := 6) (v := .pointer (some ⟨gr, 0, none⟩)) (L := #[true, true, true, true, true, false, true, false, false, false, false, false, false, false]) rfl (by kernel_rfl) (by kernel_rfl) (by kernel_rfl) (fun c a w h => HPN.out c _ _ _ h) (Or.inl ⟨by kernel_rfl, fun wq hq => by go_simp⟩) hS (by kernel_rfl) ?_
  refine held_take (i := 7) (v := .pointer (some ⟨ga, 1, none⟩)) (L := #[true, true, true, true, true, false, true, true, false, false, false, false, false, false]) rfl (by kernel_rfl) (by kernel_rfl) (by kernel_rfl) (fun c a w h => HPN.out c _ _ _ h) (Or.inl ⟨by kernel_rfl, fun wq hq => by go_simp⟩) hS (by kernel_rfl) ?_
  refine held_take (i := 8) (v := .int .i64 x.a) (L := #[true, true, true, true, true, false, true, true, true, false, false, false, false, false]) rfl (by kernel_rfl) (by kernel_rfl) (by kernel_rfl) (fun c a w h => HPN.out c _ _ _ h) (Or.inl ⟨by kernel_rfl, fun wq hq => by have q := kept_cell hq 1 lga nga; rw [y1] at q; go_simp⟩) hS (by kernel_rfl) ?_
  refine held_take (i := 9) (v := .pointer (some ⟨ga, 2, none⟩)) (L := #[true, true, true, true, true, false, true, true, true, true, false, false, false, false]) rfl (by kernel_rfl) (by kernel_rfl) (by kernel_rfl) (fun c a w h => HPN.out c _ _ _ h) (Or.inl ⟨by kernel_rfl, fun wq hq => by go_simp⟩) hS (by kernel_rfl) ?_
  refine held_take (i := 10) (v := .string x.s) (L := #[true, true, true, true, true, false, true, true, true, true, true, false, false, false]) rfl (by kernel_rfl) (by kernel_rfl) (by kernel_rfl) (fun c a w h => HPN.out c _ _ _ h) (Or.inl ⟨by kernel_rfl, fun wq hq => by have q := kept_cell hq 2 lga nga; rw [y2] at q; go_simp⟩) hS (by kernel_rfl) ?_
  refine held_go (i := 5) (L := #[true, true, true, true, true, true, true, true, true, true, true, false, false, false]) (by kernel_rfl) rfl (by kernel_rfl) (by kernel_rfl) ?_
  intro K' hK
  go_simp
  refine WR.out.mono ?_
  intro e w1 hW1
  obtain ⟨vv, rfl, hrd⟩ := dd_write1 H.out hW1
  have hS1 := keptB_trans hS (keptB_mono (bad' := fun k => dskBad gd gs G.ss k ∨ refBad gr G.kv G.nv G.tv k) (writeR_kept hW1) (fun k e => .inl e))
  have RW := hidE (rwrite_any x.a x.s w1 hrd HF.out (by omega) (by omega) (by omega))
  have HW1 := hidE hW1
  clear hW1 hrd WR
  refine hK _ _ ⟨hS1, ?_⟩
  clear hK
  refine held_go (i := 11) (L := #[true, true, true, true, true, true, true, true, true, true, true, true, false, false]) (by kernel_rfl) rfl (by kernel_rfl) (by kernel_rfl) ?_
  intro K' hK
  go_simp
  refine RW.out.mono ?_
  intro e w2 hR2
  obtain ⟨f, G', rfl, hal, hdd⟩ := dd_write2 H.out HW1.out hR2
  have hS2 := keptB_trans hS1 (keptB_mono (bad' := fun k => dskBad gd gs G.ss k ∨ refBad gr G.kv G.nv G.tv k) (rwriteR_kept hR2) (fun k e => .inr e))
  have SA := hidE (same_alike hal w2)
  have HDD := hidE hdd
  clear hR2 hal hdd RW HW1
  refine hK _ _ ⟨hS2, ?_⟩
  clear hK
  refine held_go (i := 12) (L := #[true, true, true, true, true, true, true, true, true, true, true, true, true, false]) (by kernel_rfl) rfl (by kernel_rfl) (by kernel_rfl) ?_
  intro K' hK
  go_simp
  refine SA.out.mono ?_
  rintro e w3 ⟨rfl, rfl⟩
  refine hK _ _ ⟨hS2, ?_⟩
  clear hK
  refine held_go (i := 13) (L := #[true, true, true, true, true, true, true, true, true, true, true, true, true, true]) (by kernel_rfl) rfl (by kernel_rfl) (by kernel_rfl) ?_
  intro K' hK
  go_simp
  refine hK _ _ ⟨hS2, ?_⟩
  clear hK
  refine wpAnyH_done (by kernel_rfl) ?_ _
  exact HQ.out _ _ _ _ _ _ _ _ _ _ _ _ _ _ _ _ _ _ _ _ _ _ _ _ _ _ _ _ _ _ _ _ _ _ _ _ _ _ _ _ _ _ _ _ _ _ _ _ _ _ _ _ _ _ _ _ _ _ _ _ _ _ _ _ _ _ _ _ _ _ _ _ HDD.out
set_option maxRecDepth 100000 in
set_option maxHeartbeats 8000000 in
theorem swR (Q : Exit → Act → World → Prop) (C : Code) (hC : stm 18 (Try.f3.body.getD .skip) = some C) (u0 u1 u2 u3 u4 u5 u7 u9 u10 u13 u14 u15 u16 u17 u18 u19 u20 u21 u22 u23 u24 u25 u26 u27 u28 u29 u30 u31 u32 u33 u34 u35 u36 u37 u38 u39 u40 u41 u42 u43 u44 u45 u46 u47 u48 u49 u50 u51 u52 u53 u54 u55 u56 u57 u58 u59 u60 u61 u62 u63 u64 u65 u66 u67 u68 u69 u70 u71 u72 u74 u75 u76 u77 u78 u79 u80 u81 u82 u83 u84 u85 u86 u87 u88 u89 u90 u91 u92 u93 u94 u95 u96 u97 u98 u99 u100 u101 u102 u103 u104 u105 u106 u107 u108 u109 u110 u111 u112 u113 u114 u115 u116 u117 u118 u119 u120 u121 u122 u123 u124 u125 u126 u127 u128 u129 u130 u131 u132 u133 u134 u135 u136 u137 u138 u139 u140 u141 u142 u143 u144 u145 u146 u147 u148 u149 u150 u151 u152 u153 u154 u155 u156 u157 u158 u159 u160 u161 u162 u163 u164 u165 u166 u167 u168 u169 u170 u171 u172 u173 u174 u175 u176 : Value) (x : Act1) (gd gs Br gr ga n m : Nat) (G : Gh) (W w : World) (hd_write : (x.kind.toList == [119, 114, 105, 116, 101]) = false) (hd_read : (x.kind.toList == [114, 101, 97, 100]) = true)
    (hn : n ≤ 160) (hn0 : 1 ≤ n) (hm : m ≤ 80) (hx : x.s.size ≤ 3000) (hk : 0 ≤ x.k ∧ x.k ≤ 18446744073709551615) (hxa : x.a ≤ 9223372036854775807) (h : DD W w n gd gs Br gr m G) (hb : BlkAt w ga (cellsAct x)) (hnb : ¬ dskBad gd gs G.ss ga ∧ ¬ refBad gr G.kv G.nv G.tv ga)
    (hpan : ∀ c a a' w, Q (.panic c) a w → Q (.panic c) a' w)
    (hQ : ∀ (v13 v14 v15 v16 v74 v75 v76 v77 v78 v79 v80 v81 v82 v83 v84 v85 v86 v87 v88 v89 v90 v91 v92 v93 v94 v95 v96 v97 v98 v99 v100 v101 v102 v103 v104 v105 v106 v107 v108 v109 v110 v111 v112 v113 v114 v115 v116 v117 v118 v119 v120 v121 v122 v123 v124 v125 v126 v127 v128 v129 v130 v131 v132 v133 v134 v135 v136 v137 v138 v139 : Value) (G' : Gh) (w' : World), DD W w' n gd gs Br gr (m + 1) G' → Q .normal { tmps := (u0 :: u1 :: u2 :: u3 :: u4 :: u5 :: .pointer (some ⟨gd, 0, none⟩) :: u7 :: .pointer (some ⟨gr, 0, none⟩) :: u9 :: u10 :: .pointer (some ⟨ga, 0, none⟩) :: .bool true :: v13 :: v14 :: v15 :: v16 :: u17 :: u18 :: u19 :: u20 :: u21 :: u22 :: u23 :: u24 :: u25 :: u26 :: u27 :: u28 :: u29 :: u30 :: u31 :: u32 :: u33 :: u34 :: u35 :: u36 :: u37 :: u38 :: u39 :: u40 :: u41 :: u42 :: u43 :: u44 :: u45 :: u46 :: u47 :: u48 :: u49 :: u50 :: u51 :: u52 :: u53 :: u54 :: u55 :: u56 :: u57 :: u58 :: u59 :: u60 :: u61 :: u62 :: u63 :: u64 :: u65 :: u66 :: u67 :: u68 :: u69 :: u70 :: u71 :: u72 :: .string x.kind :: v74 :: v75 :: v76 :: v77 :: v78 :: v79 :: v80 :: v81 :: v82 :: v83 :: v84 :: v85 :: v86 :: v87 :: v88 :: v89 :: v90 :: v91 :: v92 :: v93 :: v94 :: v95 :: v96 :: v97 :: v98 :: v99 :: v100 :: v101 :: v102 :: v103 :: v104 :: v105 :: v106 :: v107 :: v108 :: v109 :: v110 :: v111 :: v112 :: v113 :: v114 :: v115 :: v116 :: v117 :: v118 :: v119 :: v120 :: v121 :: v122 :: v123 :: v124 :: v125 :: v126 :: v127 :: v128 :: v129 :: v130 :: v131 :: v132 :: v133 :: v134 :: v135 :: v136 :: v137 :: v138 :: v139 :: u140 :: u141 :: u142 :: u143 :: u144 :: u145 :: u146 :: u147 :: u148 :: u149 :: u150 :: u151 :: u152 :: u153 :: u154 :: u155 :: u156 :: u157 :: u158 :: u159 :: u160 :: u161 :: u162 :: u163 :: u164 :: u165 :: u166 :: u167 :: u168 :: u169 :: u170 :: u171 :: u172 :: u173 :: u174 :: u175 :: u176 :: []).toArray, defers := [] } w') :
    Code.wp Try.prog C Q { tmps := (u0 :: u1 :: u2 :: u3 :: u4 :: u5 :: .pointer (some ⟨gd, 0, none⟩) :: u7 :: .pointer (some ⟨gr, 0, none⟩) :: u9 :: u10 :: .pointer (some ⟨ga, 0, none⟩) :: .bool true :: u13 :: u14 :: u15 :: u16 :: u17 :: u18 :: u19 :: u20 :: u21 :: u22 :: u23 :: u24 :: u25 :: u26 :: u27 :: u28 :: u29 :: u30 :: u31 :: u32 :: u33 :: u34 :: u35 :: u36 :: u37 :: u38 :: u39 :: u40 :: u41 :: u42 :: u43 :: u44 :: u45 :: u46 :: u47 :: u48 :: u49 :: u50 :: u51 :: u52 :: u53 :: u54 :: u55 :: u56 :: u57 :: u58 :: u59 :: u60 :: u61 :: u62 :: u63 :: u64 :: u65 :: u66 :: u67 :: u68 :: u69 :: u70 :: u71 :: u72 :: .string x.kind :: u74 :: u75 :: u76 :: u77 :: u78 :: u79 :: u80 :: u81 :: u82 :: u83 :: u84 :: u85 :: u86 :: u87 :: u88 :: u89 :: u90 :: u91 :: u92 :: u93 :: u94 :: u95 :: u96 :: u97 :: u98 :: u99 :: u100 :: u101 :: u102 :: u103 :: u104 :: u105 :: u106 :: u107 :: u108 :: u109 :: u110 :: u111 :: u112 :: u113 :: u114 :: u115 :: u116 :: u117 :: u118 :: u119 :: u120 :: u121 :: u122 :: u123 :: u124 :: u125 :: u126 :: u127 :: u128 :: u129 :: u130 :: u131 :: u132 :: u133 :: u134 :: u135 :: u136 :: u137 :: u138 :: u139 :: u140 :: u141 :: u142 :: u143 :: u144 :: u145 :: u146 :: u147 :: u148 :: u149 :: u150 :: u151 :: u152 :: u153 :: u154 :: u155 :: u156 :: u157 :: u158 :: u159 :: u160 :: u161 :: u162 :: u163 :: u164 :: u165 :: u166 :: u167 :: u168 :: u169 :: u170 :: u171 :: u172 :: u173 :: u174 :: u175 :: u176 :: []).toArray, defers := [] } w := by
  have HQ := hidE hQ
  have HPN := hidE hpan
  have lga := hb.lt
  have y1 : w.cell? ⟨ga, 1, none⟩ = some (.int .i64 x.a) := hb.c 1 (by simp [cellsAct])
  have y2 : w.cell? ⟨ga, 2, none⟩ = some (.string x.s) := hb.c 2 (by simp [cellsAct])
  have y3 : w.cell? ⟨ga, 3, none⟩ = some (.int .u64 x.k) := hb.c 3 (by simp [cellsAct])
  have hls := h.rel.ls
  have hln := h.rel.ln
  have hlk := h.rel.lk
  have hlt := h.rel.lt
  have HF := hidE h.rel.lf
  have H := hidE h
  have nga : ¬ (dskBad gd gs G.ss ga ∨ refBad gr G.kv G.nv G.tv ga) := fun e => e.elim hnb.1 hnb.2
  clear hQ hpan hb h hnb
  unfold Try.f3 at hC
  simp [stm, lead] at hC
  subst hC
  obtain ⟨y, v, f, hal, hR1, hR2⟩ := dd_read hn H.out x.a
  have RA := hidE hR1
  have RB := hidE hR2
  have SA := fun w => same_alike hal w
  clear hR1 hR2 hal
  go_wp2_with fail
  refine RA.out.mono ?_
  rintro e w1 ⟨rfl, hb1⟩
  have y1' : w1.cell? ⟨ga, 1, none⟩ = some (.int .i64 x.a) := by rw [hb1.cell (p := ⟨ga, 1, none⟩) lga]; exact y1
  have RB1 := hidE (RB.out w1 hb1)
  have H1 := hidE (dd_below H.out hb1)
  clear RB RA hb1 H y1 y2 y3
  go_wp2_with fail
  refine RB1.out.mono ?_
  rintro e w2 ⟨rfl, hb2⟩
  have H2 := hidE (dd_mono (dd_below H1.out hb2) (Nat.le_succ m))
  clear RB1 hb2 H1 y1'
  go_wp2_with (go_at_call 9; refine (SA _).mono ?_; rintro e w' ⟨rfl, rfl⟩)
  exact HQ.out _ _ _ _ _ _ _ _ _ _ _ _ _ _ _ _ _ _ _ _ _ _ _ _ _ _ _ _ _ _ _ _ _ _ _ _ _ _ _ _ _ _ _ _ _ _ _ _ _ _ _ _ _ _ _ _ _ _ _ _ _ _ _ _ _ _ _ _ _ _ G _ H2.out
set_option maxRecDepth 100000 in
set_option maxHeartbeats 8000000 in
theorem swF (Q : Exit → Act → World → Prop) (C : Code) (hC : stm 18 (Try.f3.body.getD .skip) = some C) (u0 u1 u2 u3 u4 u5 u7 u9 u10 u13 u14 u15 u16 u17 u18 u19 u20 u21 u22 u23 u24 u25 u26 u27 u28 u29 u30 u31 u32 u33 u34 u35 u36 u37 u38 u39 u40 u41 u42 u43 u44 u45 u46 u47 u48 u49 u50 u51 u52 u53 u54 u55 u56 u57 u58 u59 u60 u61 u62 u63 u64 u65 u66 u67 u68 u69 u70 u71 u72 u74 u75 u76 u77 u78 u79 u80 u81 u82 u83 u84 u85 u86 u87 u88 u89 u90 u91 u92 u93 u94 u95 u96 u97 u98 u99 u100 u101 u102 u103 u104 u105 u106 u107 u108 u109 u110 u111 u112 u113 u114 u115 u116 u117 u118 u119 u120 u121 u122 u123 u124 u125 u126 u127 u128 u129 u130 u131 u132 u133 u134 u135 u136 u137 u138 u139 u140 u141 u142 u143 u144 u145 u146 u147 u148 u149 u150 u151 u152 u153 u154 u155 u156 u157 u158 u159 u160 u161 u162 u163 u164 u165 u166 u167 u168 u169 u170 u171 u172 u173 u174 u175 u176 : Value) (x : Act1) (gd gs Br gr ga n m : Nat) (G : Gh) (W w : World) (hd_write : (x.kind.toList == [119, 114, 105, 116, 101]) = false) (hd_read : (x.kind.toList == [114, 101, 97, 100]) = false) (hd_flush : (x.kind.toList == [102, 108, 117, 115, 104]) = true)
    (hn : n ≤ 160) (hn0 : 1 ≤ n) (hm : m ≤ 80) (hx : x.s.size ≤ 3000) (hk : 0 ≤ x.k ∧ x.k ≤ 18446744073709551615) (hxa : x.a ≤ 9223372036854775807) (h : DD W w n gd gs Br gr m G) (hb : BlkAt w ga (cellsAct x)) (hnb : ¬ dskBad gd gs G.ss ga ∧ ¬ refBad gr G.kv G.nv G.tv ga)
    (hpan : ∀ c a a' w, Q (.panic c) a w → Q (.panic c) a' w)
    (hQ : ∀ (v13 v14 v15 v16 v74 v75 v76 v77 v78 v79 v80 v81 v82 v83 v84 v85 v86 v87 v88 v89 v90 v91 v92 v93 v94 v95 v96 v97 v98 v99 v100 v101 v102 v103 v104 v105 v106 v107 v108 v109 v110 v111 v112 v113 v114 v115 v116 v117 v118 v119 v120 v121 v122 v123 v124 v125 v126 v127 v128 v129 v130 v131 v132 v133 v134 v135 v136 v137 v138 v139 : Value) (G' : Gh) (w' : World), DD W w' n gd gs Br gr (m + 1) G' → Q .normal { tmps := (u0 :: u1 :: u2 :: u3 :: u4 :: u5 :: .pointer (some ⟨gd, 0, none⟩) :: u7 :: .pointer (some ⟨gr, 0, none⟩) :: u9 :: u10 :: .pointer (some ⟨ga, 0, none⟩) :: .bool true :: v13 :: v14 :: v15 :: v16 :: u17 :: u18 :: u19 :: u20 :: u21 :: u22 :: u23 :: u24 :: u25 :: u26 :: u27 :: u28 :: u29 :: u30 :: u31 :: u32 :: u33 :: u34 :: u35 :: u36 :: u37 :: u38 :: u39 :: u40 :: u41 :: u42 :: u43 :: u44 :: u45 :: u46 :: u47 :: u48 :: u49 :: u50 :: u51 :: u52 :: u53 :: u54 :: u55 :: u56 :: u57 :: u58 :: u59 :: u60 :: u61 :: u62 :: u63 :: u64 :: u65 :: u66 :: u67 :: u68 :: u69 :: u70 :: u71 :: u72 :: .string x.kind :: v74 :: v75 :: v76 :: v77 :: v78 :: v79 :: v80 :: v81 :: v82 :: v83 :: v84 :: v85 :: v86 :: v87 :: v88 :: v89 :: v90 :: v91 :: v92 :: v93 :: v94 :: v95 :: v96 :: v97 :: v98 :: v99 :: v100 :: v101 :: v102 :: v103 :: v104 :: v105 :: v106 :: v107 :: v108 :: v109 :: v110 :: v111 :: v112 :: v113 :: v114 :: v115 :: v116 :: v117 :: v118 :: v119 :: v120 :: v121 :: v122 :: v123 :: v124 :: v125 :: v126 :: v127 :: v128 :: v129 :: v130 :: v131 :: v132 :: v133 :: v134 :: v135 :: v136 :: v137 :: v138 :: v139 :: u140 :: u141 :: u142 :: u143 :: u144 :: u145 :: u146 :: u147 :: u148 :: u149 :: u150 :: u151 :: u152 :: u153 :: u154 :: u155 :: u156 :: u157 :: u158 :: u159 :: u160 :: u161 :: u162 :: u163 :: u164 :: u165 :: u166 :: u167 :: u168 :: u169 :: u170 :: u171 :: u172 :: u173 :: u174 :: u175 :: u176 :: []).toArray, defers := [] } w') :
    Code.wp Try.prog C Q { tmps := (u0 :: u1 :: u2 :: u3 :: u4 :: u5 :: .pointer (some ⟨gd, 0, none⟩) :: u7 :: .pointer (some ⟨gr, 0, none⟩) :: u9 :: u10 :: .pointer (some ⟨ga, 0, none⟩) :: .bool true :: u13 :: u14 :: u15 :: u16 :: u17 :: u18 :: u19 :: u20 :: u21 :: u22 :: u23 :: u24 :: u25 :: u26 :: u27 :: u28 :: u29 :: u30 :: u31 :: u32 :: u33 :: u34 :: u35 :: u36 :: u37 :: u38 :: u39 :: u40 :: u41 :: u42 :: u43 :: u44 :: u45 :: u46 :: u47 :: u48 :: u49 :: u50 :: u51 :: u52 :: u53 :: u54 :: u55 :: u56 :: u57 :: u58 :: u59 :: u60 :: u61 :: u62 :: u63 :: u64 :: u65 :: u66 :: u67 :: u68 :: u69 :: u70 :: u71 :: u72 :: .string x.kind :: u74 :: u75 :: u76 :: u77 :: u78 :: u79 :: u80 :: u81 :: u82 :: u83 :: u84 :: u85 :: u86 :: u87 :: u88 :: u89 :: u90 :: u91 :: u92 :: u93 :: u94 :: u95 :: u96 :: u97 :: u98 :: u99 :: u100 :: u101 :: u102 :: u103 :: u104 :: u105 :: u106 :: u107 :: u108 :: u109 :: u110 :: u111 :: u112 :: u113 :: u114 :: u115 :: u116 :: u117 :: u118 :: u119 :: u120 :: u121 :: u122 :: u123 :: u124 :: u125 :: u126 :: u127 :: u128 :: u129 :: u130 :: u131 :: u132 :: u133 :: u134 :: u135 :: u136 :: u137 :: u138 :: u139 :: u140 :: u141 :: u142 :: u143 :: u144 :: u145 :: u146 :: u147 :: u148 :: u149 :: u150 :: u151 :: u152 :: u153 :: u154 :: u155 :: u156 :: u157 :: u158 :: u159 :: u160 :: u161 :: u162 :: u163 :: u164 :: u165 :: u166 :: u167 :: u168 :: u169 :: u170 :: u171 :: u172 :: u173 :: u174 :: u175 :: u176 :: []).toArray, defers := [] } w := by
  have HQ := hidE hQ
  have HPN := hidE hpan
  have lga := hb.lt
  have y1 : w.cell? ⟨ga, 1, none⟩ = some (.int .i64 x.a) := hb.c 1 (by simp [cellsAct])
  have y2 : w.cell? ⟨ga, 2, none⟩ = some (.string x.s) := hb.c 2 (by simp [cellsAct])
  have y3 : w.cell? ⟨ga, 3, none⟩ = some (.int .u64 x.k) := hb.c 3 (by simp [cellsAct])
  have hls := h.rel.ls
  have hln := h.rel.ln
  have hlk := h.rel.lk
  have hlt := h.rel.lt
  have HF := hidE h.rel.lf
  have H := hidE h
  have nga : ¬ (dskBad gd gs G.ss ga ∨ refBad gr G.kv G.nv G.tv ga) := fun e => e.elim hnb.1 hnb.2
  clear hQ hpan hb h hnb
  unfold Try.f3 at hC
  simp [stm, lead] at hC
  subst hC
  have FL := hidE (flush_g W.heap.size gd gs G.bit G.left G.down G.ss w H.out.dk (by omega) H.out.rel.ll)
  clear y1 y2 y3
  go_wp2_with fail
  refine FL.out.mono ?_
  intro e w1 hW1
  obtain ⟨vv, rfl, hrd⟩ := dd_flush1 H.out hW1
  have RW := hidE (rflush_any w1 hrd HF.out (by omega) (by omega))
  have HW1 := hidE hW1
  clear hW1 hrd FL
  go_wp2_with fail
  refine RW.out.mono ?_
  intro e w2 hR2
  obtain ⟨f, G', rfl, hal, hdd⟩ := dd_flush2 H.out HW1.out hR2
  have SA := hidE (same_alike hal w2)
  have HDD := hidE hdd
  clear hR2 hal hdd RW HW1
  go_wp2_with fail
  refine SA.out.mono ?_
  rintro e w3 ⟨rfl, rfl⟩
  go_wp2_with fail
  exact HQ.out _ _ _ _ _ _ _ _ _ _ _ _ _ _ _ _ _ _ _ _ _ _ _ _ _ _ _ _ _ _ _ _ _ _ _ _ _ _ _ _ _ _ _ _ _ _ _ _ _ _ _ _ _ _ _ _ _ _ _ _ _ _ _ _ _ _ _ _ _ _ _ _ HDD.out
set_option maxRecDepth 100000 in
set_option maxHeartbeats 8000000 in
theorem swA (Q : Exit → Act → World → Prop) (C : Code) (hC : stm 18 (Try.f3.body.getD .skip) = some C) (u0 u1 u2 u3 u4 u5 u7 u9 u10 u13 u14 u15 u16 u17 u18 u19 u20 u21 u22 u23 u24 u25 u26 u27 u28 u29 u30 u31 u32 u33 u34 u35 u36 u37 u38 u39 u40 u41 u42 u43 u44 u45 u46 u47 u48 u49 u50 u51 u52 u53 u54 u55 u56 u57 u58 u59 u60 u61 u62 u63 u64 u65 u66 u67 u68 u69 u70 u71 u72 u74 u75 u76 u77 u78 u79 u80 u81 u82 u83 u84 u85 u86 u87 u88 u89 u90 u91 u92 u93 u94 u95 u96 u97 u98 u99 u100 u101 u102 u103 u104 u105 u106 u107 u108 u109 u110 u111 u112 u113 u114 u115 u116 u117 u118 u119 u120 u121 u122 u123 u124 u125 u126 u127 u128 u129 u130 u131 u132 u133 u134 u135 u136 u137 u138 u139 u140 u141 u142 u143 u144 u145 u146 u147 u148 u149 u150 u151 u152 u153 u154 u155 u156 u157 u158 u159 u160 u161 u162 u163 u164 u165 u166 u167 u168 u169 u170 u171 u172 u173 u174 u175 u176 : Value) (x : Act1) (gd gs Br gr ga n m : Nat) (G : Gh) (W w : World) (hd_write : (x.kind.toList == [119, 114, 105, 116, 101]) = false) (hd_read : (x.kind.toList == [114, 101, 97, 100]) = false) (hd_flush : (x.kind.toList == [102, 108, 117, 115, 104]) = false) (hd_arm : (x.kind.toList == [97, 114, 109]) = true)
    (hn : n ≤ 160) (hn0 : 1 ≤ n) (hm : m ≤ 80) (hx : x.s.size ≤ 3000) (hk : 0 ≤ x.k ∧ x.k ≤ 18446744073709551615) (hxa : x.a ≤ 9223372036854775807) (h : DD W w n gd gs Br gr m G) (hb : BlkAt w ga (cellsAct x)) (hnb : ¬ dskBad gd gs G.ss ga ∧ ¬ refBad gr G.kv G.nv G.tv ga)
    (hpan : ∀ c a a' w, Q (.panic c) a w → Q (.panic c) a' w)
    (hQ : ∀ (v13 v14 v15 v16 v74 v75 v76 v77 v78 v79 v80 v81 v82 v83 v84 v85 v86 v87 v88 v89 v90 v91 v92 v93 v94 v95 v96 v97 v98 v99 v100 v101 v102 v103 v104 v105 v106 v107 v108 v109 v110 v111 v112 v113 v114 v115 v116 v117 v118 v119 v120 v121 v122 v123 v124 v125 v126 v127 v128 v129 v130 v131 v132 v133 v134 v135 v136 v137 v138 v139 : Value) (G' : Gh) (w' : World), DD W w' n gd gs Br gr (m + 1) G' → Q .normal { tmps := (u0 :: u1 :: u2 :: u3 :: u4 :: u5 :: .pointer (some ⟨gd, 0, none⟩) :: u7 :: .pointer (some ⟨gr, 0, none⟩) :: u9 :: u10 :: .pointer (some ⟨ga, 0, none⟩) :: .bool true :: v13 :: v14 :: v15 :: v16 :: u17 :: u18 :: u19 :: u20 :: u21 :: u22 :: u23 :: u24 :: u25 :: u26 :: u27 :: u28 :: u29 :: u30 :: u31 :: u32 :: u33 :: u34 :: u35 :: u36 :: u37 :: u38 :: u39 :: u40 :: u41 :: u42 :: u43 :: u44 :: u45 :: u46 :: u47 :: u48 :: u49 :: u50 :: u51 :: u52 :: u53 :: u54 :: u55 :: u56 :: u57 :: u58 :: u59 :: u60 :: u61 :: u62 :: u63 :: u64 :: u65 :: u66 :: u67 :: u68 :: u69 :: u70 :: u71 :: u72 :: .string x.kind :: v74 :: v75 :: v76 :: v77 :: v78 :: v79 :: v80 :: v81 :: v82 :: v83 :: v84 :: v85 :: v86 :: v87 :: v88 :: v89 :: v90 :: v91 :: v92 :: v93 :: v94 :: v95 :: v96 :: v97 :: v98 :: v99 :: v100 :: v101 :: v102 :: v103 :: v104 :: v105 :: v106 :: v107 :: v108 :: v109 :: v110 :: v111 :: v112 :: v113 :: v114 :: v115 :: v116 :: v117 :: v118 :: v119 :: v120 :: v121 :: v122 :: v123 :: v124 :: v125 :: v126 :: v127 :: v128 :: v129 :: v130 :: v131 :: v132 :: v133 :: v134 :: v135 :: v136 :: v137 :: v138 :: v139 :: u140 :: u141 :: u142 :: u143 :: u144 :: u145 :: u146 :: u147 :: u148 :: u149 :: u150 :: u151 :: u152 :: u153 :: u154 :: u155 :: u156 :: u157 :: u158 :: u159 :: u160 :: u161 :: u162 :: u163 :: u164 :: u165 :: u166 :: u167 :: u168 :: u169 :: u170 :: u171 :: u172 :: u173 :: u174 :: u175 :: u176 :: []).toArray, defers := [] } w') :
    Code.wp Try.prog C Q { tmps := (u0 :: u1 :: u2 :: u3 :: u4 :: u5 :: .pointer (some ⟨gd, 0, none⟩) :: u7 :: .pointer (some ⟨gr, 0, none⟩) :: u9 :: u10 :: .pointer (some ⟨ga, 0, none⟩) :: .bool true :: u13 :: u14 :: u15 :: u16 :: u17 :: u18 :: u19 :: u20 :: u21 :: u22 :: u23 :: u24 :: u25 :: u26 :: u27 :: u28 :: u29 :: u30 :: u31 :: u32 :: u33 :: u34 :: u35 :: u36 :: u37 :: u38 :: u39 :: u40 :: u41 :: u42 :: u43 :: u44 :: u45 :: u46 :: u47 :: u48 :: u49 :: u50 :: u51 :: u52 :: u53 :: u54 :: u55 :: u56 :: u57 :: u58 :: u59 :: u60 :: u61 :: u62 :: u63 :: u64 :: u65 :: u66 :: u67 :: u68 :: u69 :: u70 :: u71 :: u72 :: .string x.kind :: u74 :: u75 :: u76 :: u77 :: u78 :: u79 :: u80 :: u81 :: u82 :: u83 :: u84 :: u85 :: u86 :: u87 :: u88 :: u89 :: u90 :: u91 :: u92 :: u93 :: u94 :: u95 :: u96 :: u97 :: u98 :: u99 :: u100 :: u101 :: u102 :: u103 :: u104 :: u105 :: u106 :: u107 :: u108 :: u109 :: u110 :: u111 :: u112 :: u113 :: u114 :: u115 :: u116 :: u117 :: u118 :: u119 :: u120 :: u121 :: u122 :: u123 :: u124 :: u125 :: u126 :: u127 :: u128 :: u129 :: u130 :: u131 :: u132 :: u133 :: u134 :: u135 :: u136 :: u137 :: u138 :: u139 :: u140 :: u141 :: u142 :: u143 :: u144 :: u145 :: u146 :: u147 :: u148 :: u149 :: u150 :: u151 :: u152 :: u153 :: u154 :: u155 :: u156 :: u157 :: u158 :: u159 :: u160 :: u161 :: u162 :: u163 :: u164 :: u165 :: u166 :: u167 :: u168 :: u169 :: u170 :: u171 :: u172 :: u173 :: u174 :: u175 :: u176 :: []).toArray, defers := [] } w := by
  have HQ := hidE hQ
  have HPN := hidE hpan
  have lga := hb.lt
  have y1 : w.cell? ⟨ga, 1, none⟩ = some (.int .i64 x.a) := hb.c 1 (by simp [cellsAct])
  have y2 : w.cell? ⟨ga, 2, none⟩ = some (.string x.s) := hb.c 2 (by simp [cellsAct])
  have y3 : w.cell? ⟨ga, 3, none⟩ = some (.int .u64 x.k) := hb.c 3 (by simp [cellsAct])
  have hls := h.rel.ls
  have hln := h.rel.ln
  have hlk := h.rel.lk
  have hlt := h.rel.lt
  have HF := hidE h.rel.lf
  have H := hidE h
  have nga : ¬ (dskBad gd gs G.ss ga ∨ refBad gr G.kv G.nv G.tv ga) := fun e => e.elim hnb.1 hnb.2
  clear hQ hpan hb h hnb
  unfold Try.f3 at hC
  simp [stm, lead] at hC
  subst hC
  have AR := hidE (arm_g x.a W.heap.size gd gs G.bit G.left G.down G.ss w H.out.dk)
  go_wp2_with fail
  refine AR.out.mono ?_
  rintro e w1 ⟨rfl, hk1, hd1⟩
  obtain ⟨bd, G', hdd⟩ := dd_arm hxa H.out hk1 hd1
  have y1' : w1.cell? ⟨ga, 1, none⟩ = some (.int .i64 x.a) := by rw [kept_cell hk1 1 lga (fun e => nga (.inl (.inl e)))]; exact y1
  have c3 : w1.cell? ⟨gr, 3, none⟩ = some (.int .i64 G.fuse) := bd.c 3 (by simp)
  have f3 := bd.fz 3
  have HDD := hidE hdd
  clear bd hdd hk1 hd1 AR y1 y2 y3
  go_wp2_with fail
  all_goals first
    | (have e9 : max x.a (-1) = -1 := by omega
       have h9 := HDD.out
       rw [e9] at h9
       exact HQ.out _ _ _ _ _ _ _ _ _ _ _ _ _ _ _ _ _ _ _ _ _ _ _ _ _ _ _ _ _ _ _ _ _ _ _ _ _ _ _ _ _ _ _ _ _ _ _ _ _ _ _ _ _ _ _ _ _ _ _ _ _ _ _ _ _ _ _ _ _ _ _ _ h9)
    | (have e9 : max x.a (-1) = x.a := by omega
       have h9 := HDD.out
       rw [e9] at h9
       exact HQ.out _ _ _ _ _ _ _ _ _ _ _ _ _ _ _ _ _ _ _ _ _ _ _ _ _ _ _ _ _ _ _ _ _ _ _ _ _ _ _ _ _ _ _ _ _ _ _ _ _ _ _ _ _ _ _ _ _ _ _ _ _ _ _ _ _ _ _ _ _ _ _ _ h9)
set_option maxRecDepth 100000 in
set_option maxHeartbeats 8000000 in
theorem swD (Q : Exit → Act → World → Prop) (C : Code) (hC : stm 18 (Try.f3.body.getD .skip) = some C) (u0 u1 u2 u3 u4 u5 u7 u9 u10 u13 u14 u15 u16 u17 u18 u19 u20 u21 u22 u23 u24 u25 u26 u27 u28 u29 u30 u31 u32 u33 u34 u35 u36 u37 u38 u39 u40 u41 u42 u43 u44 u45 u46 u47 u48 u49 u50 u51 u52 u53 u54 u55 u56 u57 u58 u59 u60 u61 u62 u63 u64 u65 u66 u67 u68 u69 u70 u71 u72 u74 u75 u76 u77 u78 u79 u80 u81 u82 u83 u84 u85 u86 u87 u88 u89 u90 u91 u92 u93 u94 u95 u96 u97 u98 u99 u100 u101 u102 u103 u104 u105 u106 u107 u108 u109 u110 u111 u112 u113 u114 u115 u116 u117 u118 u119 u120 u121 u122 u123 u124 u125 u126 u127 u128 u129 u130 u131 u132 u133 u134 u135 u136 u137 u138 u139 u140 u141 u142 u143 u144 u145 u146 u147 u148 u149 u150 u151 u152 u153 u154 u155 u156 u157 u158 u159 u160 u161 u162 u163 u164 u165 u166 u167 u168 u169 u170 u171 u172 u173 u174 u175 u176 : Value) (x : Act1) (gd gs Br gr ga n m : Nat) (G : Gh) (W w : World) (hd_write : (x.kind.toList == [119, 114, 105, 116, 101]) = false) (hd_read : (x.kind.toList == [114, 101, 97, 100]) = false) (hd_flush : (x.kind.toList == [102, 108, 117, 115, 104]) = false) (hd_arm : (x.kind.toList == [97, 114, 109]) = false)
    (hn : n ≤ 160) (hn0 : 1 ≤ n) (hm : m ≤ 80) (hx : x.s.size ≤ 3000) (hk : 0 ≤ x.k ∧ x.k ≤ 18446744073709551615) (hxa : x.a ≤ 9223372036854775807) (h : DD W w n gd gs Br gr m G) (hb : BlkAt w ga (cellsAct x)) (hnb : ¬ dskBad gd gs G.ss ga ∧ ¬ refBad gr G.kv G.nv G.tv ga)
    (hpan : ∀ c a a' w, Q (.panic c) a w → Q (.panic c) a' w)
    (hQ : ∀ (v13 v14 v15 v16 v74 v75 v76 v77 v78 v79 v80 v81 v82 v83 v84 v85 v86 v87 v88 v89 v90 v91 v92 v93 v94 v95 v96 v97 v98 v99 v100 v101 v102 v103 v104 v105 v106 v107 v108 v109 v110 v111 v112 v113 v114 v115 v116 v117 v118 v119 v120 v121 v122 v123 v124 v125 v126 v127 v128 v129 v130 v131 v132 v133 v134 v135 v136 v137 v138 v139 : Value) (G' : Gh) (w' : World), DD W w' n gd gs Br gr (m + 1) G' → Q .normal { tmps := (u0 :: u1 :: u2 :: u3 :: u4 :: u5 :: .pointer (some ⟨gd, 0, none⟩) :: u7 :: .pointer (some ⟨gr, 0, none⟩) :: u9 :: u10 :: .pointer (some ⟨ga, 0, none⟩) :: .bool true :: v13 :: v14 :: v15 :: v16 :: u17 :: u18 :: u19 :: u20 :: u21 :: u22 :: u23 :: u24 :: u25 :: u26 :: u27 :: u28 :: u29 :: u30 :: u31 :: u32 :: u33 :: u34 :: u35 :: u36 :: u37 :: u38 :: u39 :: u40 :: u41 :: u42 :: u43 :: u44 :: u45 :: u46 :: u47 :: u48 :: u49 :: u50 :: u51 :: u52 :: u53 :: u54 :: u55 :: u56 :: u57 :: u58 :: u59 :: u60 :: u61 :: u62 :: u63 :: u64 :: u65 :: u66 :: u67 :: u68 :: u69 :: u70 :: u71 :: u72 :: .string x.kind :: v74 :: v75 :: v76 :: v77 :: v78 :: v79 :: v80 :: v81 :: v82 :: v83 :: v84 :: v85 :: v86 :: v87 :: v88 :: v89 :: v90 :: v91 :: v92 :: v93 :: v94 :: v95 :: v96 :: v97 :: v98 :: v99 :: v100 :: v101 :: v102 :: v103 :: v104 :: v105 :: v106 :: v107 :: v108 :: v109 :: v110 :: v111 :: v112 :: v113 :: v114 :: v115 :: v116 :: v117 :: v118 :: v119 :: v120 :: v121 :: v122 :: v123 :: v124 :: v125 :: v126 :: v127 :: v128 :: v129 :: v130 :: v131 :: v132 :: v133 :: v134 :: v135 :: v136 :: v137 :: v138 :: v139 :: u140 :: u141 :: u142 :: u143 :: u144 :: u145 :: u146 :: u147 :: u148 :: u149 :: u150 :: u151 :: u152 :: u153 :: u154 :: u155 :: u156 :: u157 :: u158 :: u159 :: u160 :: u161 :: u162 :: u163 :: u164 :: u165 :: u166 :: u167 :: u168 :: u169 :: u170 :: u171 :: u172 :: u173 :: u174 :: u175 :: u176 :: []).toArray, defers := [] } w') :
    Code.wp Try.prog C Q { tmps := (u0 :: u1 :: u2 :: u3 :: u4 :: u5 :: .pointer (some ⟨gd, 0, none⟩) :: u7 :: .pointer (some ⟨gr, 0, none⟩) :: u9 :: u10 :: .pointer (some ⟨ga, 0, none⟩) :: .bool true :: u13 :: u14 :: u15 :: u16 :: u17 :: u18 :: u19 :: u20 :: u21 :: u22 :: u23 :: u24 :: u25 :: u26 :: u27 :: u28 :: u29 :: u30 :: u31 :: u32 :: u33 :: u34 :: u35 :: u36 :: u37 :: u38 :: u39 :: u40 :: u41 :: u42 :: u43 :: u44 :: u45 :: u46 :: u47 :: u48 :: u49 :: u50 :: u51 :: u52 :: u53 :: u54 :: u55 :: u56 :: u57 :: u58 :: u59 :: u60 :: u61 :: u62 :: u63 :: u64 :: u65 :: u66 :: u67 :: u68 :: u69 :: u70 :: u71 :: u72 :: .string x.kind :: u74 :: u75 :: u76 :: u77 :: u78 :: u79 :: u80 :: u81 :: u82 :: u83 :: u84 :: u85 :: u86 :: u87 :: u88 :: u89 :: u90 :: u91 :: u92 :: u93 :: u94 :: u95 :: u96 :: u97 :: u98 :: u99 :: u100 :: u101 :: u102 :: u103 :: u104 :: u105 :: u106 :: u107 :: u108 :: u109 :: u110 :: u111 :: u112 :: u113 :: u114 :: u115 :: u116 :: u117 :: u118 :: u119 :: u120 :: u121 :: u122 :: u123 :: u124 :: u125 :: u126 :: u127 :: u128 :: u129 :: u130 :: u131 :: u132 :: u133 :: u134 :: u135 :: u136 :: u137 :: u138 :: u139 :: u140 :: u141 :: u142 :: u143 :: u144 :: u145 :: u146 :: u147 :: u148 :: u149 :: u150 :: u151 :: u152 :: u153 :: u154 :: u155 :: u156 :: u157 :: u158 :: u159 :: u160 :: u161 :: u162 :: u163 :: u164 :: u165 :: u166 :: u167 :: u168 :: u169 :: u170 :: u171 :: u172 :: u173 :: u174 :: u175 :: u176 :: []).toArray, defers := [] } w := by
  have HQ := hidE hQ
  have HPN := hidE hpan
  have lga := hb.lt
  have y1 : w.cell? ⟨ga, 1, none⟩ = some (.int .i64 x.a) := hb.c 1 (by simp [cellsAct])
  have y2 : w.cell? ⟨ga, 2, none⟩ = some (.string x.s) := hb.c 2 (by simp [cellsAct])
  have y3 : w.cell? ⟨ga, 3, none⟩ = some (.int .u64 x.k) := hb.c 3 (by simp [cellsAct])
  have hls := h.rel.ls
  have hln := h.rel.ln
  have hlk := h.rel.lk
  have hlt := h.rel.lt
  have HF := hidE h.rel.lf
  have H := hidE h
  have nga : ¬ (dskBad gd gs G.ss ga ∨ refBad gr G.kv G.nv G.tv ga) := fun e => e.elim hnb.1 hnb.2
  clear hQ hpan hb h hnb
  unfold Try.f3 at hC
  simp [stm, lead] at hC
  subst hC
  have RS := hidE (restart_g x.k hk W.heap.size gd gs G.bit G.left G.down G.ss w H.out.dk (by omega))
  go_wp2_with fail
  refine RS.out.mono ?_
  rintro e w1 ⟨rfl, hk1, hd1⟩
  have hrd := dd_restart1 H.out hk1
  have y3' : w1.cell? ⟨ga, 3, none⟩ = some (.int .u64 x.k) := by rw [kept_cell hk1 3 lga (fun e => nga (.inl (e.elim .inl (fun e => .inr (.inl e)))))]; exact y3
  have RR := hidE (rrestart_any x.k hk w1 hrd (by omega) (by omega) (by omega) (fun p hp => by have := H.out.rel.tin p hp; omega))
  have HK1 := hidE hk1
  have HD1 := hidE hd1
  clear hrd hk1 hd1 RS y1 y2 y3
  go_wp2_with fail
  refine RR.out.mono ?_
  rintro e w2 ⟨rfl, hk2, nv', hnew, hd2⟩
  obtain ⟨G', hdd⟩ := dd_restart2 H.out HK1.out HD1.out hk2 hnew hd2
  have HDD := hidE hdd
  clear hk2 hnew hd2 hdd RR HK1 HD1 y3'
  go_wp2_with fail
  exact HQ.out _ _ _ _ _ _ _ _ _ _ _ _ _ _ _ _ _ _ _ _ _ _ _ _ _ _ _ _ _ _ _ _ _ _ _ _ _ _ _ _ _ _ _ _ _ _ _ _ _ _ _ _ _ _ _ _ _ _ _ _ _ _ _ _ _ _ _ _ _ _ _ _ HDD.out
end Go.Proofs.Ytjiopjdbifcfkac

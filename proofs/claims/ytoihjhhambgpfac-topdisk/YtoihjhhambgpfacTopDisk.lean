/- The law TopDisk's walk, over this seat's translation. Conditions: as named. -/
import Derived.Test.YtoihjhhambgpfacTDL1
import Derived.Test.YtoihjhhambgpfacTDL2
import Derived.Test.YtoihjhhambgpfacTDL3
import Derived.Test.YtoihjhhambgpfacTDL4
import Derived.Test.YtoihjhhambgpfacTDS
namespace Go.Proofs.Ytoihjhhambgpfac
open Go.ChangeShapes Go.WideShapes Go.ChangeAt Go.RowKit
set_option linter.unusedVariables false
set_option linter.unusedSimpArgs false

theorem want_now (keep : Int) (ss : List Sec) : ((ss.map (settleS 18446744073709551615)).map fun s => strB (textS s)) = wantK keep (ss.map (settleS 18446744073709551615)) := by
  unfold wantK
  rw [List.map_map, List.map_map]
  rfl
theorem want_then (keep : Int) (ss : List Sec) : wantK keep ss = (ss.map (settleS keep)).map fun s => strB (textS s) := by
  unfold wantK
  rw [List.map_map]
  rfl
set_option maxRecDepth 100000 in
set_option maxHeartbeats 8000000 in
theorem topDisk_walk (l l2 : List Act1) (lv lv2 : Value) (keep : Int) (hkeep : 0 ≤ keep ∧ keep ≤ 18446744073709551615) (W : World) (hr : RowG W lv 4 l.length (rowOf cellsAct l)) (hl : l.length ≤ maxLen) (hs : ∀ x ∈ l, x.s.size ≤ maxLen) (hr2 : RowG W lv2 4 l2.length (rowOf cellsAct l2)) (hl2 : l2.length ≤ maxLen) (hs2 : ∀ x ∈ l2, x.s.size ≤ maxLen) :
    Calls Try.prog 4 #[lv, lv2, .int .u64 keep] W fun e w' => e = .returned (.bool true) ∧ Below W.heap.size W w' := by
  obtain ⟨ao, cap, rfl⟩ := rowG_shape hr
  obtain ⟨ao2, cap2, rfl⟩ := rowG_shape hr2
  go_enter Try.func4, Try.ntmps4
  have HR : ∀ (t : List Value) w', t[6]? = some (.bool true) → Below W.heap.size W w' → bodyPost Try.prog Try.f4 (fun e w' => e = .returned (.bool true) ∧ Below W.heap.size W w') .ret { tmps := t.toArray, defers := [] } w' := fun t w' h6 hb => by
    refine bodyPost_ret (results_tmp rfl _ _ _) rfl ?_
    refine ⟨?_, hb⟩
    have h9 : t.toArray.getD 6 undef = .bool true := by simp [h6]
    rw [h9]
  have HPN : ∀ c a a' w1, bodyPost Try.prog Try.f4 (fun e w' => e = .returned (.bool true) ∧ Below W.heap.size W w') (.panic c) a w1 → bodyPost Try.prog Try.f4 (fun e w' => e = .returned (.bool true) ∧ Below W.heap.size W w') (.panic c) a' w1 := fun c a a' w1 h => by
    have h2 := h.2.1
    cases h2
  refine segT0 _ _ _ _ (by kernel_rfl) _ (by kernel_rfl) _ (by kernel_rfl) _ (by kernel_rfl) _ (by kernel_rfl) _ (by kernel_rfl) _ (by kernel_rfl) _ _ _ _ _ _ _ _ _ _ _ _ _ _ _ _ _ _ _ _ _ _ _ _ _ _ _ _ _ _ _ _ _ _ _ _ _ _ _ _ _ _ _ _ _ _ _ _ _ _ _ _ _ _ _ _ _ _ _ _ _ _ _ _ _ _ _ _ _ _ _ _ _ _ _ _ _ _ _ _ _ _ _ _ _ _ _ _ _ _ _ _ _ _ _ _ _ _ _ _ _ _ _ _ _ _ _ _ _ _ _ _ _ _ _ _ _ _ _ _ _ _ _ _ _ _ _ _ _ _ _ _ _ _ _ _ _ _ _ _ _ _ _ _ _ _ _ _ _ l l2 keep cap cap2 ao ao2 W hr hl hs hr2 hl2 hs2 HR ?_
  rintro v21 v22 v23 v24 v25 v26 v27 v28 v29 v30 v31 v32 v33 v34 v35 v36 v37 v38 v39 v40 v41 v42 v43 v44 v45 v46 v47 v48 gd gs ss0 w1 ⟨T1, hw1, c1, c2, c3, c4⟩
  refine loopT1 _ _ (by kernel_rfl) _ _ _ _ _ _ _ _ _ _ _ _ _ _ _ _ _ _ _ _ _ _ _ _ _ _ _ _ _ _ _ _ _ _ _ _ _ _ _ _ _ _ _ _ _ _ _ _ _ _ _ _ _ _ _ _ _ _ _ _ _ _ _ _ _ _ _ _ _ _ _ _ _ _ _ _ _ _ _ _ _ _ _ _ _ _ _ _ _ _ _ _ _ _ _ _ _ _ _ _ _ _ _ _ _ _ _ _ _ _ _ _ _ _ _ _ _ _ _ _ _ _ _ _ _ _ _ _ _ _ _ _ _ _ _ _ _ _ _ _ _ _ _ _ _ _ _ _ _ l cap gd gs ao ss0 W w1 hr c1 c2 T1 hw1 (fun c a a' w h => HPN c a a' w h) ?_
  intro v9 v49 v50 v51 v52 v53 v54 v55 v56 v57 v58 v59 v60 v61 v62 v63 v64 v65 v66 n1 ss1 w2 T2 hn1
  refine then_normal (segT2 _ _ _ _ (by kernel_rfl) _ (by kernel_rfl) _ (by kernel_rfl) _ (by kernel_rfl) _ _ _ _ _ _ _ _ _ _ _ _ _ _ _ _ _ _ _ _ _ _ _ _ _ _ _ _ _ _ _ _ _ _ _ _ _ _ _ _ _ _ _ _ _ _ _ _ _ _ _ _ _ _ _ _ _ _ _ _ _ _ _ _ _ _ _ _ _ _ _ _ _ _ _ _ _ _ _ _ _ _ _ _ _ _ _ _ _ _ _ _ _ _ _ _ _ _ _ _ _ _ _ _ _ _ _ _ _ _ _ _ _ _ _ _ _ _ _ _ _ _ _ _ _ _ _ _ _ _ _ _ _ _ _ _ _ _ _ _ _ _ _ _ _ _ _ _ _ _ _ gd gs n1 ss1 W w2 T2 (by omega) ?_)
  rintro v67 v68 v69 gq w3 ⟨T3, B3, nb3, lo3⟩
  refine loopT2 _ _ (by kernel_rfl) _ _ _ _ _ _ _ _ _ _ _ _ _ _ _ _ _ _ _ _ _ _ _ _ _ _ _ _ _ _ _ _ _ _ _ _ _ _ _ _ _ _ _ _ _ _ _ _ _ _ _ _ _ _ _ _ _ _ _ _ _ _ _ _ _ _ _ _ _ _ _ _ _ _ _ _ _ _ _ _ _ _ _ _ _ _ _ _ _ _ _ _ _ _ _ _ _ _ _ _ _ _ _ _ _ _ _ _ _ _ _ _ _ _ _ _ _ _ _ _ _ _ _ _ _ _ _ _ _ _ _ _ _ _ _ _ _ _ _ _ _ _ _ _ _ _ _ _ _ gd gs gq 0 _ W w3 T3 B3 nb3 lo3 (fun c a a' w h => HPN c a a' w h) ?_
  intro v6 v11 v12 v13 v70 v71 v72 v73 v74 v75 v76 v77 v78 v79 v80 v81 v82 v83 v84 w4 T4 B4
  rw [want_now keep] at B4
  refine then_normal (segT3 _ _ _ _ (by kernel_rfl) _ (by kernel_rfl) _ _ _ _ _ _ _ _ _ _ _ _ _ _ _ _ _ _ _ _ _ _ _ _ _ _ _ _ _ _ _ _ _ _ _ _ _ _ _ _ _ _ _ _ _ _ _ _ _ _ _ _ _ _ _ _ _ _ _ _ _ _ _ _ _ _ _ _ _ _ _ _ _ _ _ _ _ _ _ _ _ _ _ _ _ _ _ _ _ _ _ _ _ _ _ _ _ _ _ _ _ _ _ _ _ _ _ _ _ _ _ _ _ _ _ _ _ _ _ _ _ _ _ _ _ _ _ _ _ _ _ _ _ _ _ _ _ _ _ _ _ _ _ _ _ _ _ _ _ _ _ _ w4 ?_)
  intro _ _
  refine loopT3 _ _ (by kernel_rfl) _ _ _ _ _ _ _ _ _ _ _ _ _ _ _ _ _ _ _ _ _ _ _ _ _ _ _ _ _ _ _ _ _ _ _ _ _ _ _ _ _ _ _ _ _ _ _ _ _ _ _ _ _ _ _ _ _ _ _ _ _ _ _ _ _ _ _ _ _ _ _ _ _ _ _ _ _ _ _ _ _ _ _ _ _ _ _ _ _ _ _ _ _ _ _ _ _ _ _ _ _ _ _ _ _ _ _ _ _ _ _ _ _ _ _ _ _ _ _ _ _ _ _ _ _ _ _ _ _ _ _ _ _ _ _ _ _ _ _ _ _ _ _ _ _ _ l2 keep cap2 gd gs gq ao2 _ W w4 hr2 c3 c4 hkeep T4 (fun s hs => by
    obtain ⟨q, -, rfl⟩ := List.mem_map.1 hs
    exact Nat.le_refl _) B4 nb3 lo3 (fun c a a' w h => HPN c a a' w h) ?_
  intro v6 v14 v15 v16 v17 v85 v86 v87 v88 v89 v90 v91 v92 v93 v94 v95 v96 v97 v98 v99 v100 v101 v102 v103 v104 v105 v106 v107 v108 v109 v110 v111 v112 v113 v114 v115 v116 v117 v118 v119 v120 v121 v122 v123 v124 v125 v126 v127 v128 v129 n5 ss5 w5 T5 hn5 B5 nb5
  refine then_normal (segT4 _ _ _ _ (by kernel_rfl) _ (by kernel_rfl) _ _ _ _ _ _ _ _ _ _ _ _ _ _ _ _ _ _ _ _ _ _ _ _ _ _ _ _ _ _ _ _ _ _ _ _ _ _ _ _ _ _ _ _ _ _ _ _ _ _ _ _ _ _ _ _ _ _ _ _ _ _ _ _ _ _ _ _ _ _ _ _ _ _ _ _ _ _ _ _ _ _ _ _ _ _ _ _ _ _ _ _ _ _ _ _ _ _ _ _ _ _ _ _ _ _ _ _ _ _ _ _ _ _ _ _ _ _ _ _ _ _ _ _ _ _ _ _ _ _ _ _ _ _ _ _ _ _ _ _ _ _ _ _ _ _ _ _ _ _ keep gd gs gq n5 ss5 _ W w5 hkeep T5 (by omega) B5 nb5 ?_)
  rintro v130 v131 v132 w6 ⟨T6, B6⟩
  rw [want_then keep] at B6
  refine loopT4 _ _ (by kernel_rfl) _ _ _ _ _ _ _ _ _ _ _ _ _ _ _ _ _ _ _ _ _ _ _ _ _ _ _ _ _ _ _ _ _ _ _ _ _ _ _ _ _ _ _ _ _ _ _ _ _ _ _ _ _ _ _ _ _ _ _ _ _ _ _ _ _ _ _ _ _ _ _ _ _ _ _ _ _ _ _ _ _ _ _ _ _ _ _ _ _ _ _ _ _ _ _ _ _ _ _ _ _ _ _ _ _ _ _ _ _ _ _ _ _ _ _ _ _ _ _ _ _ _ _ _ _ _ _ _ _ _ _ _ _ _ _ _ _ _ _ _ _ _ _ _ _ _ _ _ _ gd gs gq 0 _ W w6 T6 B6 (fun c a a' w h => HPN c a a' w h) ?_
  intro v6 v18 v19 v20 v133 v134 v135 v136 v137 v138 v139 v140 v141 v142 v143 v144 v145 v146 v147 v148 v149 v150 v151 w7 hb7
  exact then_normal (segT5 _ _ (by kernel_rfl) _ _ _ _ _ _ _ _ _ _ _ _ _ _ _ _ _ _ _ _ _ _ _ _ _ _ _ _ _ _ _ _ _ _ _ _ _ _ _ _ _ _ _ _ _ _ _ _ _ _ _ _ _ _ _ _ _ _ _ _ _ _ _ _ _ _ _ _ _ _ _ _ _ _ _ _ _ _ _ _ _ _ _ _ _ _ _ _ _ _ _ _ _ _ _ _ _ _ _ _ _ _ _ _ _ _ _ _ _ _ _ _ _ _ _ _ _ _ _ _ _ _ _ _ _ _ _ _ _ _ _ _ _ _ _ _ _ _ _ _ _ _ _ _ _ _ _ _ _ _ _ _ w7 (fun t h6 => HR t w7 h6 hb7))
end Go.Proofs.Ytoihjhhambgpfac

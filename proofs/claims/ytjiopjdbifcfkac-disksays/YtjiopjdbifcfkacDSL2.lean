/- The law DiskSays's switch over any act, and a round's head, over this seat's translation. Conditions: as named. -/
import Derived.Test.YtjiopjdbifcfkacDSL1
namespace Go.Proofs.Ytjiopjdbifcfkac
open Go.ChangeShapes Go.WideShapes Go.ChangeAt Go.RowKit
set_option linter.unusedVariables false
set_option linter.unusedSimpArgs false

theorem in_normal {Q : Exit → Act → World → Prop} {id : Nat} {a : Act} {w : World} (h : Q .normal a w) : Exit.inBlock id Q .normal a w := h
theorem then_exit {K : Act → World → Prop} {Q : Exit → Act → World → Prop} {id : Nat} {a : Act} {w : World} (h : Q (.exit id) a w) : Exit.then K Q (.exit id) a w := h
theorem in_exit {Q : Exit → Act → World → Prop} {id : Nat} {a : Act} {w : World} (h : Q .normal a w) : Exit.inBlock id Q (.exit id) a w := by
  simp only [Exit.inBlock, if_true]
  exact h
theorem some_at {t : List Value} {f : Nat → Value} {i : Nat} {v : Value} (h : t[i]? = some (f i)) (hv : t[i]? = some v) : f i = v := Option.some.inj (h.symm.trans hv)
set_option maxRecDepth 100000 in
/-- a list of so many, by its elements -/
theorem listed (t : List Value) (h : t.length = 177) : ∃ f : Nat → Value, t = f 0 :: f 1 :: f 2 :: f 3 :: f 4 :: f 5 :: f 6 :: f 7 :: f 8 :: f 9 :: f 10 :: f 11 :: f 12 :: f 13 :: f 14 :: f 15 :: f 16 :: f 17 :: f 18 :: f 19 :: f 20 :: f 21 :: f 22 :: f 23 :: f 24 :: f 25 :: f 26 :: f 27 :: f 28 :: f 29 :: f 30 :: f 31 :: f 32 :: f 33 :: f 34 :: f 35 :: f 36 :: f 37 :: f 38 :: f 39 :: f 40 :: f 41 :: f 42 :: f 43 :: f 44 :: f 45 :: f 46 :: f 47 :: f 48 :: f 49 :: f 50 :: f 51 :: f 52 :: f 53 :: f 54 :: f 55 :: f 56 :: f 57 :: f 58 :: f 59 :: f 60 :: f 61 :: f 62 :: f 63 :: f 64 :: f 65 :: f 66 :: f 67 :: f 68 :: f 69 :: f 70 :: f 71 :: f 72 :: f 73 :: f 74 :: f 75 :: f 76 :: f 77 :: f 78 :: f 79 :: f 80 :: f 81 :: f 82 :: f 83 :: f 84 :: f 85 :: f 86 :: f 87 :: f 88 :: f 89 :: f 90 :: f 91 :: f 92 :: f 93 :: f 94 :: f 95 :: f 96 :: f 97 :: f 98 :: f 99 :: f 100 :: f 101 :: f 102 :: f 103 :: f 104 :: f 105 :: f 106 :: f 107 :: f 108 :: f 109 :: f 110 :: f 111 :: f 112 :: f 113 :: f 114 :: f 115 :: f 116 :: f 117 :: f 118 :: f 119 :: f 120 :: f 121 :: f 122 :: f 123 :: f 124 :: f 125 :: f 126 :: f 127 :: f 128 :: f 129 :: f 130 :: f 131 :: f 132 :: f 133 :: f 134 :: f 135 :: f 136 :: f 137 :: f 138 :: f 139 :: f 140 :: f 141 :: f 142 :: f 143 :: f 144 :: f 145 :: f 146 :: f 147 :: f 148 :: f 149 :: f 150 :: f 151 :: f 152 :: f 153 :: f 154 :: f 155 :: f 156 :: f 157 :: f 158 :: f 159 :: f 160 :: f 161 :: f 162 :: f 163 :: f 164 :: f 165 :: f 166 :: f 167 :: f 168 :: f 169 :: f 170 :: f 171 :: f 172 :: f 173 :: f 174 :: f 175 :: f 176 :: [] ∧ ∀ i, i < 177 → t[i]? = some (f i) := by
  have e1 : t = (List.range 177).map (fun i => t.getD i undef) := by
    apply List.ext_getElem
    · simp [h]
    · intro i h1 h2
      simp [List.getD, h1]
  refine ⟨fun i => t.getD i undef, ?_, fun i hi => ?_⟩
  · have e2 : ∀ g : Nat → Value, (List.range 177).map g = g 0 :: g 1 :: g 2 :: g 3 :: g 4 :: g 5 :: g 6 :: g 7 :: g 8 :: g 9 :: g 10 :: g 11 :: g 12 :: g 13 :: g 14 :: g 15 :: g 16 :: g 17 :: g 18 :: g 19 :: g 20 :: g 21 :: g 22 :: g 23 :: g 24 :: g 25 :: g 26 :: g 27 :: g 28 :: g 29 :: g 30 :: g 31 :: g 32 :: g 33 :: g 34 :: g 35 :: g 36 :: g 37 :: g 38 :: g 39 :: g 40 :: g 41 :: g 42 :: g 43 :: g 44 :: g 45 :: g 46 :: g 47 :: g 48 :: g 49 :: g 50 :: g 51 :: g 52 :: g 53 :: g 54 :: g 55 :: g 56 :: g 57 :: g 58 :: g 59 :: g 60 :: g 61 :: g 62 :: g 63 :: g 64 :: g 65 :: g 66 :: g 67 :: g 68 :: g 69 :: g 70 :: g 71 :: g 72 :: g 73 :: g 74 :: g 75 :: g 76 :: g 77 :: g 78 :: g 79 :: g 80 :: g 81 :: g 82 :: g 83 :: g 84 :: g 85 :: g 86 :: g 87 :: g 88 :: g 89 :: g 90 :: g 91 :: g 92 :: g 93 :: g 94 :: g 95 :: g 96 :: g 97 :: g 98 :: g 99 :: g 100 :: g 101 :: g 102 :: g 103 :: g 104 :: g 105 :: g 106 :: g 107 :: g 108 :: g 109 :: g 110 :: g 111 :: g 112 :: g 113 :: g 114 :: g 115 :: g 116 :: g 117 :: g 118 :: g 119 :: g 120 :: g 121 :: g 122 :: g 123 :: g 124 :: g 125 :: g 126 :: g 127 :: g 128 :: g 129 :: g 130 :: g 131 :: g 132 :: g 133 :: g 134 :: g 135 :: g 136 :: g 137 :: g 138 :: g 139 :: g 140 :: g 141 :: g 142 :: g 143 :: g 144 :: g 145 :: g 146 :: g 147 :: g 148 :: g 149 :: g 150 :: g 151 :: g 152 :: g 153 :: g 154 :: g 155 :: g 156 :: g 157 :: g 158 :: g 159 :: g 160 :: g 161 :: g 162 :: g 163 :: g 164 :: g 165 :: g 166 :: g 167 :: g 168 :: g 169 :: g 170 :: g 171 :: g 172 :: g 173 :: g 174 :: g 175 :: g 176 :: [] := fun _ => rfl
    exact e1.trans (e2 _)
  · simp [List.getD, h, hi]
set_option maxRecDepth 100000 in
set_option maxHeartbeats 8000000 in
theorem sw_any (Q : Exit → Act → World → Prop) (C18 : Code) (h18 : stm 18 (Try.f3.body.getD .skip) = some C18) (t : List Value) (n : Nat) (l : List Act1) (cap gd gs Br gr : Nat) (ao : Option Addr) (i10 : Value) (x : Act1) (ga m : Nat) (G : Gh) (W w : World) (ht : t.length = 177) (k0 : t[0]? = some (.int .i64 (n : Int))) (k1 : t[1]? = some (.slice ao l.length cap)) (k6 : t[6]? = some (.pointer (some ⟨gd, 0, none⟩))) (k8 : t[8]? = some (.pointer (some ⟨gr, 0, none⟩))) (k10 : t[10]? = some (i10)) (k11 : t[11]? = some (.pointer (some ⟨ga, 0, none⟩))) (k12 : t[12]? = some (.bool true)) (k73 : t[73]? = some (.string x.kind))
    (hn : n ≤ 160) (hn0 : 1 ≤ n) (hm : m ≤ 80) (hx : x.s.size ≤ 3000) (hk : 0 ≤ x.k ∧ x.k ≤ 18446744073709551615) (hxa : x.a ≤ 9223372036854775807) (h : DD W w n gd gs Br gr m G) (hb : BlkAt w ga (cellsAct x)) (hnb : ¬ dskBad gd gs G.ss ga ∧ ¬ refBad gr G.kv G.nv G.tv ga)
    (hpan : ∀ c a a' w, Q (.panic c) a w → Q (.panic c) a' w)
    (hQ : ∀ (t' : List Value) (G' : Gh) (w' : World), t'.length = 177 → t'[0]? = some (.int .i64 (n : Int)) → t'[1]? = some (.slice ao l.length cap) → t'[6]? = some (.pointer (some ⟨gd, 0, none⟩)) → t'[8]? = some (.pointer (some ⟨gr, 0, none⟩)) → t'[10]? = some (i10) → t'[12]? = some (.bool true) → DD W w' n gd gs Br gr (m + 1) G' → Q .normal { tmps := t'.toArray, defers := [] } w') :
    Code.wp Try.prog C18 Q { tmps := t.toArray, defers := [] } w := by
  obtain ⟨f, hf, hi⟩ := listed t ht
  have e0 := some_at (hi 0 (by decide)) k0
  have e1 := some_at (hi 1 (by decide)) k1
  have e6 := some_at (hi 6 (by decide)) k6
  have e8 := some_at (hi 8 (by decide)) k8
  have e10 := some_at (hi 10 (by decide)) k10
  have e11 := some_at (hi 11 (by decide)) k11
  have e12 := some_at (hi 12 (by decide)) k12
  have e73 := some_at (hi 73 (by decide)) k73
  rw [e0, e1, e6, e8, e10, e11, e12, e73] at hf
  clear hi ht k0 e0 k1 e1 k6 e6 k8 e8 k10 e10 k11 e11 k12 e12 k73 e73
  subst hf
  have HQ2 : ∀ (v13 v14 v15 v16 v74 v75 v76 v77 v78 v79 v80 v81 v82 v83 v84 v85 v86 v87 v88 v89 v90 v91 v92 v93 v94 v95 v96 v97 v98 v99 v100 v101 v102 v103 v104 v105 v106 v107 v108 v109 v110 v111 v112 v113 v114 v115 v116 v117 v118 v119 v120 v121 v122 v123 v124 v125 v126 v127 v128 v129 v130 v131 v132 v133 v134 v135 v136 v137 v138 v139 : Value) (G' : Gh) (w' : World), DD W w' n gd gs Br gr (m + 1) G' → Q .normal { tmps := (.int .i64 (n : Int) :: .slice ao l.length cap :: f 2 :: f 3 :: f 4 :: f 5 :: .pointer (some ⟨gd, 0, none⟩) :: f 7 :: .pointer (some ⟨gr, 0, none⟩) :: f 9 :: i10 :: .pointer (some ⟨ga, 0, none⟩) :: .bool true :: v13 :: v14 :: v15 :: v16 :: f 17 :: f 18 :: f 19 :: f 20 :: f 21 :: f 22 :: f 23 :: f 24 :: f 25 :: f 26 :: f 27 :: f 28 :: f 29 :: f 30 :: f 31 :: f 32 :: f 33 :: f 34 :: f 35 :: f 36 :: f 37 :: f 38 :: f 39 :: f 40 :: f 41 :: f 42 :: f 43 :: f 44 :: f 45 :: f 46 :: f 47 :: f 48 :: f 49 :: f 50 :: f 51 :: f 52 :: f 53 :: f 54 :: f 55 :: f 56 :: f 57 :: f 58 :: f 59 :: f 60 :: f 61 :: f 62 :: f 63 :: f 64 :: f 65 :: f 66 :: f 67 :: f 68 :: f 69 :: f 70 :: f 71 :: f 72 :: .string x.kind :: v74 :: v75 :: v76 :: v77 :: v78 :: v79 :: v80 :: v81 :: v82 :: v83 :: v84 :: v85 :: v86 :: v87 :: v88 :: v89 :: v90 :: v91 :: v92 :: v93 :: v94 :: v95 :: v96 :: v97 :: v98 :: v99 :: v100 :: v101 :: v102 :: v103 :: v104 :: v105 :: v106 :: v107 :: v108 :: v109 :: v110 :: v111 :: v112 :: v113 :: v114 :: v115 :: v116 :: v117 :: v118 :: v119 :: v120 :: v121 :: v122 :: v123 :: v124 :: v125 :: v126 :: v127 :: v128 :: v129 :: v130 :: v131 :: v132 :: v133 :: v134 :: v135 :: v136 :: v137 :: v138 :: v139 :: f 140 :: f 141 :: f 142 :: f 143 :: f 144 :: f 145 :: f 146 :: f 147 :: f 148 :: f 149 :: f 150 :: f 151 :: f 152 :: f 153 :: f 154 :: f 155 :: f 156 :: f 157 :: f 158 :: f 159 :: f 160 :: f 161 :: f 162 :: f 163 :: f 164 :: f 165 :: f 166 :: f 167 :: f 168 :: f 169 :: f 170 :: f 171 :: f 172 :: f 173 :: f 174 :: f 175 :: f 176 :: []).toArray, defers := [] } w' := fun _ _ _ _ _ _ _ _ _ _ _ _ _ _ _ _ _ _ _ _ _ _ _ _ _ _ _ _ _ _ _ _ _ _ _ _ _ _ _ _ _ _ _ _ _ _ _ _ _ _ _ _ _ _ _ _ _ _ _ _ _ _ _ _ _ _ _ _ _ _ G' w' hd => hQ _ G' w' rfl rfl rfl rfl rfl rfl rfl hd
  cases d1 : (x.kind.toList == [119, 114, 105, 116, 101]) with
  | true => exact swW Q C18 h18 _ _ _ _ _ _ _ _ _ _ _ _ _ _ _ _ _ _ _ _ _ _ _ _ _ _ _ _ _ _ _ _ _ _ _ _ _ _ _ _ _ _ _ _ _ _ _ _ _ _ _ _ _ _ _ _ _ _ _ _ _ _ _ _ _ _ _ _ _ _ _ _ _ _ _ _ _ _ _ _ _ _ _ _ _ _ _ _ _ _ _ _ _ _ _ _ _ _ _ _ _ _ _ _ _ _ _ _ _ _ _ _ _ _ _ _ _ _ _ _ _ _ _ _ _ _ _ _ _ _ _ _ _ _ _ _ _ _ _ _ _ _ _ _ _ _ _ _ _ _ _ _ _ _ _ _ _ _ _ _ _ _ _ _ _ _ _ _ _ _ _ _ x gd gs Br gr ga n m G W w d1 hn hn0 hm hx hk hxa h hb hnb hpan HQ2
  | false =>
  cases d2 : (x.kind.toList == [114, 101, 97, 100]) with
  | true => exact swR Q C18 h18 _ _ _ _ _ _ _ _ _ _ _ _ _ _ _ _ _ _ _ _ _ _ _ _ _ _ _ _ _ _ _ _ _ _ _ _ _ _ _ _ _ _ _ _ _ _ _ _ _ _ _ _ _ _ _ _ _ _ _ _ _ _ _ _ _ _ _ _ _ _ _ _ _ _ _ _ _ _ _ _ _ _ _ _ _ _ _ _ _ _ _ _ _ _ _ _ _ _ _ _ _ _ _ _ _ _ _ _ _ _ _ _ _ _ _ _ _ _ _ _ _ _ _ _ _ _ _ _ _ _ _ _ _ _ _ _ _ _ _ _ _ _ _ _ _ _ _ _ _ _ _ _ _ _ _ _ _ _ _ _ _ _ _ _ _ _ _ _ _ _ _ _ x gd gs Br gr ga n m G W w d1 d2 hn hn0 hm hx hk hxa h hb hnb hpan HQ2
  | false =>
  cases d3 : (x.kind.toList == [102, 108, 117, 115, 104]) with
  | true => exact swF Q C18 h18 _ _ _ _ _ _ _ _ _ _ _ _ _ _ _ _ _ _ _ _ _ _ _ _ _ _ _ _ _ _ _ _ _ _ _ _ _ _ _ _ _ _ _ _ _ _ _ _ _ _ _ _ _ _ _ _ _ _ _ _ _ _ _ _ _ _ _ _ _ _ _ _ _ _ _ _ _ _ _ _ _ _ _ _ _ _ _ _ _ _ _ _ _ _ _ _ _ _ _ _ _ _ _ _ _ _ _ _ _ _ _ _ _ _ _ _ _ _ _ _ _ _ _ _ _ _ _ _ _ _ _ _ _ _ _ _ _ _ _ _ _ _ _ _ _ _ _ _ _ _ _ _ _ _ _ _ _ _ _ _ _ _ _ _ _ _ _ _ _ _ _ _ x gd gs Br gr ga n m G W w d1 d2 d3 hn hn0 hm hx hk hxa h hb hnb hpan HQ2
  | false =>
  cases d4 : (x.kind.toList == [97, 114, 109]) with
  | true => exact swA Q C18 h18 _ _ _ _ _ _ _ _ _ _ _ _ _ _ _ _ _ _ _ _ _ _ _ _ _ _ _ _ _ _ _ _ _ _ _ _ _ _ _ _ _ _ _ _ _ _ _ _ _ _ _ _ _ _ _ _ _ _ _ _ _ _ _ _ _ _ _ _ _ _ _ _ _ _ _ _ _ _ _ _ _ _ _ _ _ _ _ _ _ _ _ _ _ _ _ _ _ _ _ _ _ _ _ _ _ _ _ _ _ _ _ _ _ _ _ _ _ _ _ _ _ _ _ _ _ _ _ _ _ _ _ _ _ _ _ _ _ _ _ _ _ _ _ _ _ _ _ _ _ _ _ _ _ _ _ _ _ _ _ _ _ _ _ _ _ _ _ _ _ _ _ _ x gd gs Br gr ga n m G W w d1 d2 d3 d4 hn hn0 hm hx hk hxa h hb hnb hpan HQ2
  | false => exact swD Q C18 h18 _ _ _ _ _ _ _ _ _ _ _ _ _ _ _ _ _ _ _ _ _ _ _ _ _ _ _ _ _ _ _ _ _ _ _ _ _ _ _ _ _ _ _ _ _ _ _ _ _ _ _ _ _ _ _ _ _ _ _ _ _ _ _ _ _ _ _ _ _ _ _ _ _ _ _ _ _ _ _ _ _ _ _ _ _ _ _ _ _ _ _ _ _ _ _ _ _ _ _ _ _ _ _ _ _ _ _ _ _ _ _ _ _ _ _ _ _ _ _ _ _ _ _ _ _ _ _ _ _ _ _ _ _ _ _ _ _ _ _ _ _ _ _ _ _ _ _ _ _ _ _ _ _ _ _ _ _ _ _ _ _ _ _ _ _ _ _ _ _ _ _ _ x gd gs Br gr ga n m G W w d1 d2 d3 d4 hn hn0 hm hx hk hxa h hb hnb hpan HQ2
set_option maxRecDepth 100000 in
set_option maxHeartbeats 8000000 in
theorem dHead (Q : Exit → Act → World → Prop) (C11 : Code) (h11 : rgn 11 (Try.f3.body.getD .skip) = some C11) (t : List Value) (n : Nat) (l : List Act1) (cap gd gs Br gr : Nat) (ao : Option Addr) (m : Nat) (w : World) (ht : t.length = 177) (k0 : t[0]? = some (.int .i64 (n : Int))) (k1 : t[1]? = some (.slice ao l.length cap)) (k6 : t[6]? = some (.pointer (some ⟨gd, 0, none⟩))) (k8 : t[8]? = some (.pointer (some ⟨gr, 0, none⟩))) (k10 : t[10]? = some (.int .i64 (m : Int)))
    (hl : l.length ≤ maxLen) (hml : m ≤ l.length)
    (hX : ∀ t' : List Value, t'.length = 177 → t'[0]? = some (.int .i64 (n : Int)) → t'[1]? = some (.slice ao l.length cap) → t'[6]? = some (.pointer (some ⟨gd, 0, none⟩)) → t'[8]? = some (.pointer (some ⟨gr, 0, none⟩)) → Q (.exit 0) { tmps := t'.toArray, defers := [] } w)
    (hQ : ∀ (t' : List Value)  (w' : World), t'.length = 177 → t'[0]? = some (.int .i64 (n : Int)) → t'[1]? = some (.slice ao l.length cap) → t'[6]? = some (.pointer (some ⟨gd, 0, none⟩)) → t'[8]? = some (.pointer (some ⟨gr, 0, none⟩)) → t'[10]? = some (.int .i64 (m : Int)) → m < l.length ∧ w' = w → Q .normal { tmps := t'.toArray, defers := [] } w') :
    Code.wp Try.prog (.seq C11 (.cond (.tmp 65) .skip (.exit 0))) Q { tmps := t.toArray, defers := [] } w := by
  have HQ := hidE hQ
  have HX := hidE hX
  clear hQ hX
  unfold maxLen at hl
  obtain ⟨f, hf, hi⟩ := listed t ht
  have e0 := some_at (hi 0 (by decide)) k0
  have e1 := some_at (hi 1 (by decide)) k1
  have e6 := some_at (hi 6 (by decide)) k6
  have e8 := some_at (hi 8 (by decide)) k8
  have e10 := some_at (hi 10 (by decide)) k10
  rw [e0, e1, e6, e8, e10] at hf
  clear hi ht k0 e0 k1 e1 k6 e6 k8 e8 k10 e10
  subst hf
  unfold Try.f3 at h11
  simp [rgn] at h11
  subst h11
  by_cases hlt : m < l.length
  · go_wp2_with fail
    exact HQ.out _  w rfl rfl rfl rfl rfl rfl ⟨hlt, rfl⟩
  · have hme : m = l.length := by omega
    clear hlt
    subst hme
    go_wp2_with fail
    exact HX.out _ rfl rfl rfl rfl rfl 
set_option maxRecDepth 100000 in
set_option maxHeartbeats 8000000 in
theorem dLoad (Q : Exit → Act → World → Prop) (X R : Code) (C13 : Code) (h13 : rgn 13 (Try.f3.body.getD .skip) = some C13) (C14 : Code) (h14 : rgn 14 (Try.f3.body.getD .skip) = some C14) (C15 : Code) (h15 : rgn 15 (Try.f3.body.getD .skip) = some C15) (t : List Value) (n : Nat) (l : List Act1) (cap gd gs Br gr : Nat) (ao : Option Addr) (m : Nat) (W w : World) (G : Gh) (ht : t.length = 177) (k0 : t[0]? = some (.int .i64 (n : Int))) (k1 : t[1]? = some (.slice ao l.length cap)) (k6 : t[6]? = some (.pointer (some ⟨gd, 0, none⟩))) (k8 : t[8]? = some (.pointer (some ⟨gr, 0, none⟩))) (k10 : t[10]? = some (.int .i64 (m : Int)))
    (hlt : m < l.length) (hr : RowG w (.slice ao l.length cap) 4 l.length (rowOf cellsAct l)) (h : DD W w n gd gs Br gr m G)
    (hQ : ∀ (t' : List Value) (ga : Nat) (x : Act1) (w' : World), t'.length = 177 → t'[0]? = some (.int .i64 (n : Int)) → t'[1]? = some (.slice ao l.length cap) → t'[6]? = some (.pointer (some ⟨gd, 0, none⟩)) → t'[8]? = some (.pointer (some ⟨gr, 0, none⟩)) → t'[10]? = some (.int .i64 (m : Int)) → t'[11]? = some (.pointer (some ⟨ga, 0, none⟩)) → t'[12]? = some (.bool true) → t'[73]? = some (.string x.kind) → x ∈ l ∧ DD W w' n gd gs Br gr m G ∧ BlkAt w' ga (cellsAct x) ∧ ¬ dskBad gd gs G.ss ga ∧ ¬ refBad gr G.kv G.nv G.tv ga → Code.wp Try.prog X (Exit.then (Code.wp Try.prog R Q) Q) { tmps := t'.toArray, defers := [] } w') :
    Code.wp Try.prog (.seq C13 (.seq C14 (.seq (.seq C15 X) R))) Q { tmps := t.toArray, defers := [] } w := by
  have HQ := hidE hQ
  have H := hidE h
  obtain ⟨g, off, rfl, hcell, q1, q2, lg⟩ := rowOf_val cellsAct_len hr m hlt
  have hmem := hidE (List.getElem_mem hlt)
  generalize l[m] = x at *
  have y0 : w.cell? ⟨g, off + m * 4, none⟩ = some (.string x.kind) := hcell 0 (by omega)
  have y1 : w.cell? ⟨g, off + m * 4 + 1, none⟩ = some (.int .i64 x.a) := hcell 1 (by omega)
  have y2 : w.cell? ⟨g, off + m * 4 + 2, none⟩ = some (.string x.s) := hcell 2 (by omega)
  have y3 : w.cell? ⟨g, off + m * 4 + 3, none⟩ = some (.int .u64 x.k) := hcell 3 (by omega)
  have BA := hidE (blk_alloc w [.string x.kind, .int .i64 x.a, .string x.s, .int .u64 x.k] 37)
  have H1 := hidE (dd_below H.out (below_alloc w (.cells #[.string x.kind, .int .i64 x.a, .string x.s, .int .u64 x.k] 37)))
  have N1 : Hid (¬ dskBad gd gs G.ss w.heap.size) := fun e => by have := (dskG_lt H.out.dk e).2; omega
  have N2 : Hid (¬ refBad gr G.kv G.nv G.tv w.heap.size) := fun e => by have := (refBad_lt H.out.rd e).2; omega
  unfold maxLen at q2
  clear hQ h hr hcell
  obtain ⟨f, hf, hi⟩ := listed t ht
  have e0 := some_at (hi 0 (by decide)) k0
  have e1 := some_at (hi 1 (by decide)) k1
  have e6 := some_at (hi 6 (by decide)) k6
  have e8 := some_at (hi 8 (by decide)) k8
  have e10 := some_at (hi 10 (by decide)) k10
  rw [e0, e1, e6, e8, e10] at hf
  clear hi ht k0 e0 k1 e1 k6 e6 k8 e8 k10 e10
  subst hf
  unfold Try.f3 at h13
  simp [rgn] at h13
  subst h13
  unfold Try.f3 at h14
  simp [rgn] at h14
  subst h14
  unfold Try.f3 at h15
  simp [rgn] at h15
  subst h15
  go_wp2_with fail
  rename_i K9 hK9
  exact wp_then (HQ.out _ w.heap.size x _ rfl rfl rfl rfl rfl rfl rfl rfl rfl ⟨hmem.out, H1.out, BA.out, N1.out, N2.out⟩) hK9
end Go.Proofs.Ytjiopjdbifcfkac

/- The law TopDisk's stretches, over this seat's translation. Conditions: as named. -/
import Derived.Test.YtoihjhhambgpfacTDk
namespace Go.Proofs.Ytoihjhhambgpfac
open Go.ChangeShapes Go.WideShapes Go.ChangeAt Go.RowKit
set_option linter.unusedVariables false
set_option linter.unusedSimpArgs false

set_option maxRecDepth 100000 in
set_option maxHeartbeats 8000000 in
theorem segT0 (Q : Exit → Act → World → Prop) (X R : Code) (C0 : Code) (h0 : rgn 0 (Try.f4.body.getD .skip) = some C0) (C1 : Code) (h1 : rgn 1 (Try.f4.body.getD .skip) = some C1) (C2 : Code) (h2 : rgn 2 (Try.f4.body.getD .skip) = some C2) (C3 : Code) (h3 : rgn 3 (Try.f4.body.getD .skip) = some C3) (C4 : Code) (h4 : rgn 4 (Try.f4.body.getD .skip) = some C4) (C5 : Code) (h5 : rgn 5 (Try.f4.body.getD .skip) = some C5) (C6 : Code) (h6 : rgn 6 (Try.f4.body.getD .skip) = some C6) (u3 u4 u5 u6 u7 u8 u9 u10 u11 u12 u13 u14 u15 u16 u17 u18 u19 u20 u21 u22 u23 u24 u25 u26 u27 u28 u29 u30 u31 u32 u33 u34 u35 u36 u37 u38 u39 u40 u41 u42 u43 u44 u45 u46 u47 u48 u49 u50 u51 u52 u53 u54 u55 u56 u57 u58 u59 u60 u61 u62 u63 u64 u65 u66 u67 u68 u69 u70 u71 u72 u73 u74 u75 u76 u77 u78 u79 u80 u81 u82 u83 u84 u85 u86 u87 u88 u89 u90 u91 u92 u93 u94 u95 u96 u97 u98 u99 u100 u101 u102 u103 u104 u105 u106 u107 u108 u109 u110 u111 u112 u113 u114 u115 u116 u117 u118 u119 u120 u121 u122 u123 u124 u125 u126 u127 u128 u129 u130 u131 u132 u133 u134 u135 u136 u137 u138 u139 u140 u141 u142 u143 u144 u145 u146 u147 u148 u149 u150 u151 : Value) (l l2 : List Act1) (keep : Int) (cap cap2 : Nat) (ao ao2 : Option Addr) (W : World)
    (hr : RowG W (.slice ao l.length cap) 4 l.length (rowOf cellsAct l)) (hl : l.length ≤ maxLen) (hs : ∀ x ∈ l, x.s.size ≤ maxLen) (hr2 : RowG W (.slice ao2 l2.length cap2) 4 l2.length (rowOf cellsAct l2)) (hl2 : l2.length ≤ maxLen) (hs2 : ∀ x ∈ l2, x.s.size ≤ maxLen)
    (hR : ∀ (t : List Value) w', t[6]? = some (.bool true) → Below W.heap.size W w' → Q .ret { tmps := t.toArray, defers := [] } w')
    (hQ : ∀ (v21 v22 v23 v24 v25 v26 v27 v28 v29 v30 v31 v32 v33 v34 v35 v36 v37 v38 v39 v40 v41 v42 v43 v44 v45 v46 v47 v48 : Value) (gd gs : Nat) (ss : List Sec) (w' : World), TD W w' gd gs 0 ss ∧ (∀ s ∈ ss, s.ws.length ≤ 0) ∧ l.length ≤ 40 ∧ (∀ x ∈ l, x.s.size ≤ 3000) ∧ l2.length ≤ 60 ∧ (∀ x ∈ l2, x.s.size ≤ 3000) → Code.wp Try.prog X (Exit.then (Code.wp Try.prog R Q) Q) { tmps := (.slice ao l.length cap :: .slice ao2 l2.length cap2 :: .int .u64 keep :: u3 :: u4 :: u5 :: .bool false :: .pointer (some ⟨gd, 0, none⟩) :: .nilIface :: .int .i64 0 :: u10 :: u11 :: u12 :: u13 :: u14 :: u15 :: u16 :: u17 :: u18 :: u19 :: u20 :: v21 :: v22 :: v23 :: v24 :: v25 :: v26 :: v27 :: v28 :: v29 :: v30 :: v31 :: v32 :: v33 :: v34 :: v35 :: v36 :: v37 :: v38 :: v39 :: v40 :: v41 :: v42 :: v43 :: v44 :: v45 :: v46 :: v47 :: v48 :: u49 :: u50 :: u51 :: u52 :: u53 :: u54 :: u55 :: u56 :: u57 :: u58 :: u59 :: u60 :: u61 :: u62 :: u63 :: u64 :: u65 :: u66 :: u67 :: u68 :: u69 :: u70 :: u71 :: u72 :: u73 :: u74 :: u75 :: u76 :: u77 :: u78 :: u79 :: u80 :: u81 :: u82 :: u83 :: u84 :: u85 :: u86 :: u87 :: u88 :: u89 :: u90 :: u91 :: u92 :: u93 :: u94 :: u95 :: u96 :: u97 :: u98 :: u99 :: u100 :: u101 :: u102 :: u103 :: u104 :: u105 :: u106 :: u107 :: u108 :: u109 :: u110 :: u111 :: u112 :: u113 :: u114 :: u115 :: u116 :: u117 :: u118 :: u119 :: u120 :: u121 :: u122 :: u123 :: u124 :: u125 :: u126 :: u127 :: u128 :: u129 :: u130 :: u131 :: u132 :: u133 :: u134 :: u135 :: u136 :: u137 :: u138 :: u139 :: u140 :: u141 :: u142 :: u143 :: u144 :: u145 :: u146 :: u147 :: u148 :: u149 :: u150 :: u151 :: []).toArray, defers := [] } w') :
    Code.wp Try.prog (.seq C0 (.seq C1 (.seq (.seq C2 (.cond (.tmp 40) (.seq C3 .ret) .skip)) (.seq (.seq C4 (.cond (.tmp 48) (.seq C5 .ret) .skip)) (.seq (.seq C6 X) R))))) Q { tmps := (.slice ao l.length cap :: .slice ao2 l2.length cap2 :: .int .u64 keep :: u3 :: u4 :: u5 :: u6 :: u7 :: u8 :: u9 :: u10 :: u11 :: u12 :: u13 :: u14 :: u15 :: u16 :: u17 :: u18 :: u19 :: u20 :: u21 :: u22 :: u23 :: u24 :: u25 :: u26 :: u27 :: u28 :: u29 :: u30 :: u31 :: u32 :: u33 :: u34 :: u35 :: u36 :: u37 :: u38 :: u39 :: u40 :: u41 :: u42 :: u43 :: u44 :: u45 :: u46 :: u47 :: u48 :: u49 :: u50 :: u51 :: u52 :: u53 :: u54 :: u55 :: u56 :: u57 :: u58 :: u59 :: u60 :: u61 :: u62 :: u63 :: u64 :: u65 :: u66 :: u67 :: u68 :: u69 :: u70 :: u71 :: u72 :: u73 :: u74 :: u75 :: u76 :: u77 :: u78 :: u79 :: u80 :: u81 :: u82 :: u83 :: u84 :: u85 :: u86 :: u87 :: u88 :: u89 :: u90 :: u91 :: u92 :: u93 :: u94 :: u95 :: u96 :: u97 :: u98 :: u99 :: u100 :: u101 :: u102 :: u103 :: u104 :: u105 :: u106 :: u107 :: u108 :: u109 :: u110 :: u111 :: u112 :: u113 :: u114 :: u115 :: u116 :: u117 :: u118 :: u119 :: u120 :: u121 :: u122 :: u123 :: u124 :: u125 :: u126 :: u127 :: u128 :: u129 :: u130 :: u131 :: u132 :: u133 :: u134 :: u135 :: u136 :: u137 :: u138 :: u139 :: u140 :: u141 :: u142 :: u143 :: u144 :: u145 :: u146 :: u147 :: u148 :: u149 :: u150 :: u151 :: []).toArray, defers := [] } W := by
  have HR := hidE hR
  have HQ := hidE hQ
  have lR := hidE hr
  have l2R := hidE hr2
  have lS := hidE hs
  have l2S := hidE hs2
  have NW := hidE (new4 W.heap.size W (Nat.le_refl _))
  clear hR hQ hr hr2 hs hs2
  unfold Try.f4 at h0
  simp [rgn] at h0
  subst h0
  unfold Try.f4 at h1
  simp [rgn] at h1
  subst h1
  unfold Try.f4 at h2
  simp [rgn] at h2
  subst h2
  unfold Try.f4 at h3
  simp [rgn] at h3
  subst h3
  unfold Try.f4 at h4
  simp [rgn] at h4
  subst h4
  unfold Try.f4 at h5
  simp [rgn] at h5
  subst h5
  unfold Try.f4 at h6
  simp [rgn] at h6
  subst h6
  go_wp2_with fail
  refine NW.out.mono ?_
  rintro e w1 ⟨gd, gs, rfl, hb, hd⟩
  have FL := hidE (flush_any W.heap.size gd gs 0 _ w1 hd (by decide) (by decide))
  have T1 : Hid (TD W w1 gd gs 0 [sec0, sec0, sec0, sec0]) := ⟨hb, hd, rfl⟩
  clear hb hd NW
  go_wp2_with fail
  refine FL.out.mono ?_
  rintro e w2 ⟨rfl, hk, hd⟩
  have T2 : Hid (TD W w2 gd gs 0 ([sec0, sec0, sec0, sec0].map (settleS 18446744073709551615))) := ⟨td_kept T1.out hk (fun k e => bad_lo T1.out k (bad_two k e)), hd, rfl⟩
  have SE := hidE (sectors_any W.heap.size gd gs 0 (-1) false _ w2 hd)
  have e4 : (([sec0, sec0, sec0, sec0].map (settleS 18446744073709551615)).length : Int) = 4 := rfl
  rw [e4] at SE
  clear hk hd FL T1 e4
  go_wp2_with fail
  refine SE.out.mono ?_
  rintro e w3 ⟨rfl, hb⟩
  have T3 := hidE (td_below T2.out hb)
  have LA := hidE (light_any l 40 (.slice ao l.length cap) w3 (rowG_below lR.out T3.out.bl) hl lS.out)
  clear hb SE T2
  go_wp2_with fail
  refine LA.out.mono ?_
  rintro e w4 ⟨⟨b, rfl, hb1⟩, hb⟩
  have T4 := hidE (td_below T3.out hb)
  clear hb LA T3
  cases b with
  | false =>
    go_wp2_with fail
    exact HR.out _ _ rfl T4.out.bl
  | true =>
  have HL1 := hidE (hb1 rfl)
  have LB := hidE (light_any l2 60 (.slice ao2 l2.length cap2) w4 (rowG_below l2R.out T4.out.bl) hl2 l2S.out)
  clear hb1
  go_wp2_with fail
  refine LB.out.mono ?_
  rintro e w5 ⟨⟨b, rfl, hb1⟩, hb⟩
  have T5 := hidE (td_below T4.out hb)
  clear hb LB T4
  cases b with
  | false =>
    go_wp2_with fail
    exact HR.out _ _ rfl T5.out.bl
  | true =>
  have HL2 := hidE (hb1 rfl)
  clear hb1
  go_wp2_with fail
  rename_i K9 hK9
  exact wp_then (HQ.out _ _ _ _ _ _ _ _ _ _ _ _ _ _ _ _ _ _ _ _ _ _ _ _ _ _ _ _ gd gs _ w5 ⟨T5.out, fun s hs => by
    obtain ⟨q, -, rfl⟩ := List.mem_map.1 hs
    exact Nat.le_refl _, by have := HL1.out.1; omega, HL1.out.2, by have := HL2.out.1; omega, HL2.out.2⟩) hK9
set_option maxRecDepth 100000 in
set_option maxHeartbeats 8000000 in
theorem segT2 (Q : Exit → Act → World → Prop) (X R : Code) (C10 : Code) (h10 : rgn 10 (Try.f4.body.getD .skip) = some C10) (C11 : Code) (h11 : rgn 11 (Try.f4.body.getD .skip) = some C11) (C12 : Code) (h12 : rgn 12 (Try.f4.body.getD .skip) = some C12) (C13 : Code) (h13 : rgn 13 (Try.f4.body.getD .skip) = some C13) (u0 u1 u2 u3 u4 u5 u6 u8 u9 u10 u11 u12 u13 u14 u15 u16 u17 u18 u19 u20 u21 u22 u23 u24 u25 u26 u27 u28 u29 u30 u31 u32 u33 u34 u35 u36 u37 u38 u39 u40 u41 u42 u43 u44 u45 u46 u47 u48 u49 u50 u51 u52 u53 u54 u55 u56 u57 u58 u59 u60 u61 u62 u63 u64 u65 u66 u67 u68 u69 u70 u71 u72 u73 u74 u75 u76 u77 u78 u79 u80 u81 u82 u83 u84 u85 u86 u87 u88 u89 u90 u91 u92 u93 u94 u95 u96 u97 u98 u99 u100 u101 u102 u103 u104 u105 u106 u107 u108 u109 u110 u111 u112 u113 u114 u115 u116 u117 u118 u119 u120 u121 u122 u123 u124 u125 u126 u127 u128 u129 u130 u131 u132 u133 u134 u135 u136 u137 u138 u139 u140 u141 u142 u143 u144 u145 u146 u147 u148 u149 u150 u151 : Value) (gd gs : Nat) (n : Int) (ss : List Sec) (W w1 : World)
    (h : TD W w1 gd gs n ss) (hn : n ≤ 64)
    (hQ : ∀ (v67 v68 v69 : Value) (gq : Nat) (w' : World), TD W w' gd gs 0 (ss.map (settleS 18446744073709551615)) ∧ BlkAt w' gq [.string ⟨#[]⟩, .string ⟨#[]⟩, .string ⟨#[]⟩, .string ⟨#[]⟩] ∧ ¬ dskBad gd gs (ss.map (settleS 18446744073709551615)) gq ∧ W.heap.size ≤ gq → Code.wp Try.prog X (Exit.then (Code.wp Try.prog R Q) Q) { tmps := (u0 :: u1 :: u2 :: u3 :: u4 :: u5 :: u6 :: .pointer (some ⟨gd, 0, none⟩) :: u8 :: u9 :: .pointer (some ⟨gq, 0, none⟩) :: .int .i64 0 :: u12 :: u13 :: u14 :: u15 :: u16 :: u17 :: u18 :: u19 :: u20 :: u21 :: u22 :: u23 :: u24 :: u25 :: u26 :: u27 :: u28 :: u29 :: u30 :: u31 :: u32 :: u33 :: u34 :: u35 :: u36 :: u37 :: u38 :: u39 :: u40 :: u41 :: u42 :: u43 :: u44 :: u45 :: u46 :: u47 :: u48 :: u49 :: u50 :: u51 :: u52 :: u53 :: u54 :: u55 :: u56 :: u57 :: u58 :: u59 :: u60 :: u61 :: u62 :: u63 :: u64 :: u65 :: u66 :: v67 :: v68 :: v69 :: u70 :: u71 :: u72 :: u73 :: u74 :: u75 :: u76 :: u77 :: u78 :: u79 :: u80 :: u81 :: u82 :: u83 :: u84 :: u85 :: u86 :: u87 :: u88 :: u89 :: u90 :: u91 :: u92 :: u93 :: u94 :: u95 :: u96 :: u97 :: u98 :: u99 :: u100 :: u101 :: u102 :: u103 :: u104 :: u105 :: u106 :: u107 :: u108 :: u109 :: u110 :: u111 :: u112 :: u113 :: u114 :: u115 :: u116 :: u117 :: u118 :: u119 :: u120 :: u121 :: u122 :: u123 :: u124 :: u125 :: u126 :: u127 :: u128 :: u129 :: u130 :: u131 :: u132 :: u133 :: u134 :: u135 :: u136 :: u137 :: u138 :: u139 :: u140 :: u141 :: u142 :: u143 :: u144 :: u145 :: u146 :: u147 :: u148 :: u149 :: u150 :: u151 :: []).toArray, defers := [] } w') :
    Code.wp Try.prog (.seq (.seq C10 (.cond (.tmp 69) (.seq C11 .ret) .skip)) (.seq C12 (.seq (.seq C13 X) R))) Q { tmps := (u0 :: u1 :: u2 :: u3 :: u4 :: u5 :: u6 :: .pointer (some ⟨gd, 0, none⟩) :: u8 :: u9 :: u10 :: u11 :: u12 :: u13 :: u14 :: u15 :: u16 :: u17 :: u18 :: u19 :: u20 :: u21 :: u22 :: u23 :: u24 :: u25 :: u26 :: u27 :: u28 :: u29 :: u30 :: u31 :: u32 :: u33 :: u34 :: u35 :: u36 :: u37 :: u38 :: u39 :: u40 :: u41 :: u42 :: u43 :: u44 :: u45 :: u46 :: u47 :: u48 :: u49 :: u50 :: u51 :: u52 :: u53 :: u54 :: u55 :: u56 :: u57 :: u58 :: u59 :: u60 :: u61 :: u62 :: u63 :: u64 :: u65 :: u66 :: u67 :: u68 :: u69 :: u70 :: u71 :: u72 :: u73 :: u74 :: u75 :: u76 :: u77 :: u78 :: u79 :: u80 :: u81 :: u82 :: u83 :: u84 :: u85 :: u86 :: u87 :: u88 :: u89 :: u90 :: u91 :: u92 :: u93 :: u94 :: u95 :: u96 :: u97 :: u98 :: u99 :: u100 :: u101 :: u102 :: u103 :: u104 :: u105 :: u106 :: u107 :: u108 :: u109 :: u110 :: u111 :: u112 :: u113 :: u114 :: u115 :: u116 :: u117 :: u118 :: u119 :: u120 :: u121 :: u122 :: u123 :: u124 :: u125 :: u126 :: u127 :: u128 :: u129 :: u130 :: u131 :: u132 :: u133 :: u134 :: u135 :: u136 :: u137 :: u138 :: u139 :: u140 :: u141 :: u142 :: u143 :: u144 :: u145 :: u146 :: u147 :: u148 :: u149 :: u150 :: u151 :: []).toArray, defers := [] } w1 := by
  have HQ := hidE hQ
  have T1 := hidE h
  have FL := hidE (flush_any W.heap.size gd gs n ss w1 h.dk (by have := h.l4; omega) hn)
  clear hQ h
  unfold Try.f4 at h10
  simp [rgn] at h10
  subst h10
  unfold Try.f4 at h11
  simp [rgn] at h11
  subst h11
  unfold Try.f4 at h12
  simp [rgn] at h12
  subst h12
  unfold Try.f4 at h13
  simp [rgn] at h13
  subst h13
  go_wp2_with fail
  refine FL.out.mono ?_
  rintro e w2 ⟨rfl, hk, hd⟩
  have T2 : Hid (TD W w2 gd gs 0 (ss.map (settleS 18446744073709551615))) := ⟨td_kept T1.out hk (fun k e => bad_lo T1.out k (bad_two k e)), hd, by rw [List.length_map]; exact T1.out.l4⟩
  have T3 := hidE (td_below T2.out (below_alloc w2 (.cells #[.string ⟨#[]⟩, .string ⟨#[]⟩, .string ⟨#[]⟩, .string ⟨#[]⟩] 52)))
  have BQ := hidE (blk_alloc w2 [.string ⟨#[]⟩, .string ⟨#[]⟩, .string ⟨#[]⟩, .string ⟨#[]⟩] 52)
  have NB : Hid (¬ dskBad gd gs (ss.map (settleS 18446744073709551615)) w2.heap.size) := fun e => by
    have := (dsk_lt T2.out.dk e).2
    omega
  have HL : Hid (W.heap.size ≤ w2.heap.size) := T2.out.bl.size
  clear hk hd FL T1 T2
  go_wp2_with fail
  rename_i K9 hK9
  exact wp_then (HQ.out _ _ _ w2.heap.size _ ⟨T3.out, BQ.out, NB.out, HL.out⟩) hK9
set_option maxRecDepth 100000 in
set_option maxHeartbeats 8000000 in
theorem segT3 (Q : Exit → Act → World → Prop) (X R : Code) (C20 : Code) (h20 : rgn 20 (Try.f4.body.getD .skip) = some C20) (C21 : Code) (h21 : rgn 21 (Try.f4.body.getD .skip) = some C21) (u0 u1 u2 u3 u4 u5 u6 u7 u8 u9 u10 u11 u12 u13 u14 u15 u16 u17 u18 u19 u20 u21 u22 u23 u24 u25 u26 u27 u28 u29 u30 u31 u32 u33 u34 u35 u36 u37 u38 u39 u40 u41 u42 u43 u44 u45 u46 u47 u48 u49 u50 u51 u52 u53 u54 u55 u56 u57 u58 u59 u60 u61 u62 u63 u64 u65 u66 u67 u68 u69 u70 u71 u72 u73 u74 u75 u76 u77 u78 u79 u80 u81 u82 u83 u84 u85 u86 u87 u88 u89 u90 u91 u92 u93 u94 u95 u96 u97 u98 u99 u100 u101 u102 u103 u104 u105 u106 u107 u108 u109 u110 u111 u112 u113 u114 u115 u116 u117 u118 u119 u120 u121 u122 u123 u124 u125 u126 u127 u128 u129 u130 u131 u132 u133 u134 u135 u136 u137 u138 u139 u140 u141 u142 u143 u144 u145 u146 u147 u148 u149 u150 u151 : Value) (w1 : World)
    
    (hQ : ∀  (w' : World), True → Code.wp Try.prog X (Exit.then (Code.wp Try.prog R Q) Q) { tmps := (u0 :: u1 :: u2 :: u3 :: u4 :: u5 :: u6 :: u7 :: u8 :: u9 :: u10 :: u11 :: u12 :: u13 :: .int .i64 0 :: .int .i64 0 :: u16 :: u17 :: u18 :: u19 :: u20 :: u21 :: u22 :: u23 :: u24 :: u25 :: u26 :: u27 :: u28 :: u29 :: u30 :: u31 :: u32 :: u33 :: u34 :: u35 :: u36 :: u37 :: u38 :: u39 :: u40 :: u41 :: u42 :: u43 :: u44 :: u45 :: u46 :: u47 :: u48 :: u49 :: u50 :: u51 :: u52 :: u53 :: u54 :: u55 :: u56 :: u57 :: u58 :: u59 :: u60 :: u61 :: u62 :: u63 :: u64 :: u65 :: u66 :: u67 :: u68 :: u69 :: u70 :: u71 :: u72 :: u73 :: u74 :: u75 :: u76 :: u77 :: u78 :: u79 :: u80 :: u81 :: u82 :: u83 :: u84 :: u85 :: u86 :: u87 :: u88 :: u89 :: u90 :: u91 :: u92 :: u93 :: u94 :: u95 :: u96 :: u97 :: u98 :: u99 :: u100 :: u101 :: u102 :: u103 :: u104 :: u105 :: u106 :: u107 :: u108 :: u109 :: u110 :: u111 :: u112 :: u113 :: u114 :: u115 :: u116 :: u117 :: u118 :: u119 :: u120 :: u121 :: u122 :: u123 :: u124 :: u125 :: u126 :: u127 :: u128 :: u129 :: u130 :: u131 :: u132 :: u133 :: u134 :: u135 :: u136 :: u137 :: u138 :: u139 :: u140 :: u141 :: u142 :: u143 :: u144 :: u145 :: u146 :: u147 :: u148 :: u149 :: u150 :: u151 :: []).toArray, defers := [] } w1) :
    Code.wp Try.prog (.seq C20 (.seq (.seq C21 X) R)) Q { tmps := (u0 :: u1 :: u2 :: u3 :: u4 :: u5 :: u6 :: u7 :: u8 :: u9 :: u10 :: u11 :: u12 :: u13 :: u14 :: u15 :: u16 :: u17 :: u18 :: u19 :: u20 :: u21 :: u22 :: u23 :: u24 :: u25 :: u26 :: u27 :: u28 :: u29 :: u30 :: u31 :: u32 :: u33 :: u34 :: u35 :: u36 :: u37 :: u38 :: u39 :: u40 :: u41 :: u42 :: u43 :: u44 :: u45 :: u46 :: u47 :: u48 :: u49 :: u50 :: u51 :: u52 :: u53 :: u54 :: u55 :: u56 :: u57 :: u58 :: u59 :: u60 :: u61 :: u62 :: u63 :: u64 :: u65 :: u66 :: u67 :: u68 :: u69 :: u70 :: u71 :: u72 :: u73 :: u74 :: u75 :: u76 :: u77 :: u78 :: u79 :: u80 :: u81 :: u82 :: u83 :: u84 :: u85 :: u86 :: u87 :: u88 :: u89 :: u90 :: u91 :: u92 :: u93 :: u94 :: u95 :: u96 :: u97 :: u98 :: u99 :: u100 :: u101 :: u102 :: u103 :: u104 :: u105 :: u106 :: u107 :: u108 :: u109 :: u110 :: u111 :: u112 :: u113 :: u114 :: u115 :: u116 :: u117 :: u118 :: u119 :: u120 :: u121 :: u122 :: u123 :: u124 :: u125 :: u126 :: u127 :: u128 :: u129 :: u130 :: u131 :: u132 :: u133 :: u134 :: u135 :: u136 :: u137 :: u138 :: u139 :: u140 :: u141 :: u142 :: u143 :: u144 :: u145 :: u146 :: u147 :: u148 :: u149 :: u150 :: u151 :: []).toArray, defers := [] } w1 := by
  have HQ := hidE hQ
  clear hQ
  unfold Try.f4 at h20
  simp [rgn] at h20
  subst h20
  unfold Try.f4 at h21
  simp [rgn] at h21
  subst h21
  go_wp2_with fail
  rename_i K9 hK9
  exact wp_then (HQ.out w1 trivial) hK9
set_option maxRecDepth 100000 in
set_option maxHeartbeats 8000000 in
theorem segT4 (Q : Exit → Act → World → Prop) (X R : Code) (C31 : Code) (h31 : rgn 31 (Try.f4.body.getD .skip) = some C31) (C32 : Code) (h32 : rgn 32 (Try.f4.body.getD .skip) = some C32) (u0 u1 u3 u4 u5 u6 u8 u9 u10 u11 u12 u13 u14 u15 u16 u17 u18 u19 u20 u21 u22 u23 u24 u25 u26 u27 u28 u29 u30 u31 u32 u33 u34 u35 u36 u37 u38 u39 u40 u41 u42 u43 u44 u45 u46 u47 u48 u49 u50 u51 u52 u53 u54 u55 u56 u57 u58 u59 u60 u61 u62 u63 u64 u65 u66 u67 u68 u69 u70 u71 u72 u73 u74 u75 u76 u77 u78 u79 u80 u81 u82 u83 u84 u85 u86 u87 u88 u89 u90 u91 u92 u93 u94 u95 u96 u97 u98 u99 u100 u101 u102 u103 u104 u105 u106 u107 u108 u109 u110 u111 u112 u113 u114 u115 u116 u117 u118 u119 u120 u121 u122 u123 u124 u125 u126 u127 u128 u129 u130 u131 u132 u133 u134 u135 u136 u137 u138 u139 u140 u141 u142 u143 u144 u145 u146 u147 u148 u149 u150 u151 : Value) (keep : Int) (gd gs gq : Nat) (n : Int) (ss : List Sec) (Cq : List Value) (W w1 : World)
    (hkeep : 0 ≤ keep ∧ keep ≤ 18446744073709551615) (h : TD W w1 gd gs n ss) (hn : n ≤ 64) (hq : BlkAt w1 gq Cq) (hnb : ¬ dskBad gd gs ss gq)
    (hQ : ∀ (v130 v131 v132 : Value)  (w' : World), TD W w' gd gs 0 (ss.map (settleS keep)) ∧ BlkAt w' gq Cq → Code.wp Try.prog X (Exit.then (Code.wp Try.prog R Q) Q) { tmps := (u0 :: u1 :: .int .u64 keep :: u3 :: u4 :: u5 :: u6 :: .pointer (some ⟨gd, 0, none⟩) :: u8 :: u9 :: u10 :: u11 :: u12 :: u13 :: u14 :: u15 :: u16 :: u17 :: .int .i64 0 :: u19 :: u20 :: u21 :: u22 :: u23 :: u24 :: u25 :: u26 :: u27 :: u28 :: u29 :: u30 :: u31 :: u32 :: u33 :: u34 :: u35 :: u36 :: u37 :: u38 :: u39 :: u40 :: u41 :: u42 :: u43 :: u44 :: u45 :: u46 :: u47 :: u48 :: u49 :: u50 :: u51 :: u52 :: u53 :: u54 :: u55 :: u56 :: u57 :: u58 :: u59 :: u60 :: u61 :: u62 :: u63 :: u64 :: u65 :: u66 :: u67 :: u68 :: u69 :: u70 :: u71 :: u72 :: u73 :: u74 :: u75 :: u76 :: u77 :: u78 :: u79 :: u80 :: u81 :: u82 :: u83 :: u84 :: u85 :: u86 :: u87 :: u88 :: u89 :: u90 :: u91 :: u92 :: u93 :: u94 :: u95 :: u96 :: u97 :: u98 :: u99 :: u100 :: u101 :: u102 :: u103 :: u104 :: u105 :: u106 :: u107 :: u108 :: u109 :: u110 :: u111 :: u112 :: u113 :: u114 :: u115 :: u116 :: u117 :: u118 :: u119 :: u120 :: u121 :: u122 :: u123 :: u124 :: u125 :: u126 :: u127 :: u128 :: u129 :: v130 :: v131 :: v132 :: u133 :: u134 :: u135 :: u136 :: u137 :: u138 :: u139 :: u140 :: u141 :: u142 :: u143 :: u144 :: u145 :: u146 :: u147 :: u148 :: u149 :: u150 :: u151 :: []).toArray, defers := [] } w') :
    Code.wp Try.prog (.seq C31 (.seq (.seq C32 X) R)) Q { tmps := (u0 :: u1 :: .int .u64 keep :: u3 :: u4 :: u5 :: u6 :: .pointer (some ⟨gd, 0, none⟩) :: u8 :: u9 :: u10 :: u11 :: u12 :: u13 :: u14 :: u15 :: u16 :: u17 :: u18 :: u19 :: u20 :: u21 :: u22 :: u23 :: u24 :: u25 :: u26 :: u27 :: u28 :: u29 :: u30 :: u31 :: u32 :: u33 :: u34 :: u35 :: u36 :: u37 :: u38 :: u39 :: u40 :: u41 :: u42 :: u43 :: u44 :: u45 :: u46 :: u47 :: u48 :: u49 :: u50 :: u51 :: u52 :: u53 :: u54 :: u55 :: u56 :: u57 :: u58 :: u59 :: u60 :: u61 :: u62 :: u63 :: u64 :: u65 :: u66 :: u67 :: u68 :: u69 :: u70 :: u71 :: u72 :: u73 :: u74 :: u75 :: u76 :: u77 :: u78 :: u79 :: u80 :: u81 :: u82 :: u83 :: u84 :: u85 :: u86 :: u87 :: u88 :: u89 :: u90 :: u91 :: u92 :: u93 :: u94 :: u95 :: u96 :: u97 :: u98 :: u99 :: u100 :: u101 :: u102 :: u103 :: u104 :: u105 :: u106 :: u107 :: u108 :: u109 :: u110 :: u111 :: u112 :: u113 :: u114 :: u115 :: u116 :: u117 :: u118 :: u119 :: u120 :: u121 :: u122 :: u123 :: u124 :: u125 :: u126 :: u127 :: u128 :: u129 :: u130 :: u131 :: u132 :: u133 :: u134 :: u135 :: u136 :: u137 :: u138 :: u139 :: u140 :: u141 :: u142 :: u143 :: u144 :: u145 :: u146 :: u147 :: u148 :: u149 :: u150 :: u151 :: []).toArray, defers := [] } w1 := by
  have HQ := hidE hQ
  have T1 := hidE h
  have HB := hidE hq
  have HN := hidE hnb
  have RS := hidE (restart_any keep hkeep W.heap.size gd gs n ss w1 h.dk (by have := h.l4; omega) hn)
  clear hQ h hq hnb
  unfold Try.f4 at h31
  simp [rgn] at h31
  subst h31
  unfold Try.f4 at h32
  simp [rgn] at h32
  subst h32
  go_wp2_with fail
  refine RS.out.mono ?_
  rintro e w2 ⟨rfl, hk, hd⟩
  have T2 : Hid (TD W w2 gd gs 0 (ss.map (settleS keep))) := ⟨td_kept T1.out hk (fun k e => bad_lo T1.out k (bad_two k e)), hd, by rw [List.length_map]; exact T1.out.l4⟩
  have HB2 := hidE (blk_kept HB.out hk (fun e => HN.out (bad_two _ e)))
  clear hk hd RS T1 HB
  go_wp2_with fail
  rename_i K9 hK9
  exact wp_then (HQ.out _ _ _ w2 ⟨T2.out, HB2.out⟩) hK9
set_option maxRecDepth 100000 in
set_option maxHeartbeats 8000000 in
theorem segT5 (Q : Exit → Act → World → Prop) (C38 : Code) (h38 : rgn 38 (Try.f4.body.getD .skip) = some C38) (u0 u1 u2 u3 u4 u5 u6 u7 u8 u9 u10 u11 u12 u13 u14 u15 u16 u17 u18 u19 u20 u21 u22 u23 u24 u25 u26 u27 u28 u29 u30 u31 u32 u33 u34 u35 u36 u37 u38 u39 u40 u41 u42 u43 u44 u45 u46 u47 u48 u49 u50 u51 u52 u53 u54 u55 u56 u57 u58 u59 u60 u61 u62 u63 u64 u65 u66 u67 u68 u69 u70 u71 u72 u73 u74 u75 u76 u77 u78 u79 u80 u81 u82 u83 u84 u85 u86 u87 u88 u89 u90 u91 u92 u93 u94 u95 u96 u97 u98 u99 u100 u101 u102 u103 u104 u105 u106 u107 u108 u109 u110 u111 u112 u113 u114 u115 u116 u117 u118 u119 u120 u121 u122 u123 u124 u125 u126 u127 u128 u129 u130 u131 u132 u133 u134 u135 u136 u137 u138 u139 u140 u141 u142 u143 u144 u145 u146 u147 u148 u149 u150 u151 : Value) (w : World)
    (hR : ∀ (t : List Value), t[6]? = some (.bool true) → Q .ret { tmps := t.toArray, defers := [] } w) :
    Code.wp Try.prog (.seq C38 .ret) Q { tmps := (u0 :: u1 :: u2 :: u3 :: u4 :: u5 :: u6 :: u7 :: u8 :: u9 :: u10 :: u11 :: u12 :: u13 :: u14 :: u15 :: u16 :: u17 :: u18 :: u19 :: u20 :: u21 :: u22 :: u23 :: u24 :: u25 :: u26 :: u27 :: u28 :: u29 :: u30 :: u31 :: u32 :: u33 :: u34 :: u35 :: u36 :: u37 :: u38 :: u39 :: u40 :: u41 :: u42 :: u43 :: u44 :: u45 :: u46 :: u47 :: u48 :: u49 :: u50 :: u51 :: u52 :: u53 :: u54 :: u55 :: u56 :: u57 :: u58 :: u59 :: u60 :: u61 :: u62 :: u63 :: u64 :: u65 :: u66 :: u67 :: u68 :: u69 :: u70 :: u71 :: u72 :: u73 :: u74 :: u75 :: u76 :: u77 :: u78 :: u79 :: u80 :: u81 :: u82 :: u83 :: u84 :: u85 :: u86 :: u87 :: u88 :: u89 :: u90 :: u91 :: u92 :: u93 :: u94 :: u95 :: u96 :: u97 :: u98 :: u99 :: u100 :: u101 :: u102 :: u103 :: u104 :: u105 :: u106 :: u107 :: u108 :: u109 :: u110 :: u111 :: u112 :: u113 :: u114 :: u115 :: u116 :: u117 :: u118 :: u119 :: u120 :: u121 :: u122 :: u123 :: u124 :: u125 :: u126 :: u127 :: u128 :: u129 :: u130 :: u131 :: u132 :: u133 :: u134 :: u135 :: u136 :: u137 :: u138 :: u139 :: u140 :: u141 :: u142 :: u143 :: u144 :: u145 :: u146 :: u147 :: u148 :: u149 :: u150 :: u151 :: []).toArray, defers := [] } w := by
  unfold Try.f4 at h38
  simp [rgn] at h38
  subst h38
  have HR := hidE hR
  clear hR
  go_wp2_with fail
  exact HR.out _ rfl
end Go.Proofs.Ytoihjhhambgpfac

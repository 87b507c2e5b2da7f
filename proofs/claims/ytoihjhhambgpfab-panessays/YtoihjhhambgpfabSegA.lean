/- The law PanesSays' checks of what is added, over this seat's translation, as a theorem of its own. Conditions: as named. -/
import Derived.Test.YtoihjhhambgpfabPaneZ
import Derived.Test.YtoihjhhambgpfabHeldF
namespace Go.Proofs.Ytoihjhhambgpfab
open Go.ChangeShapes Go.WideShapes Go.ChangeAt Go.RowKit
set_option linter.unusedVariables false
set_option linter.unusedSimpArgs false

set_option maxRecDepth 100000 in
set_option maxHeartbeats 8000000 in
theorem segA (Q : Exit → Act → World → Prop) (X R : Code) (C15 : Code) (h15 : rgn 15 (Try.f7.body.getD .skip) = some C15) (C16 : Code) (h16 : rgn 16 (Try.f7.body.getD .skip) = some C16) (C17 : Code) (h17 : rgn 17 (Try.f7.body.getD .skip) = some C17) (C18 : Code) (h18 : rgn 18 (Try.f7.body.getD .skip) = some C18) (u1 u3 u4 u5 u6 u7 u8 u9 u10 u11 u13 u14 u15 u16 u17 u18 u19 u20 u21 u22 u23 u24 u25 u26 u27 u28 u29 u30 u31 u32 u33 u34 u35 u36 u37 u38 u39 u40 u41 u42 u43 u44 u45 u46 u47 u48 u49 u50 u51 u52 u53 u54 u55 u56 u57 u58 u59 u60 u61 u62 u63 u64 u65 u66 u67 u68 u69 u70 u71 u72 u73 u74 u75 u76 u77 u78 u79 u80 u81 u82 u83 u84 u85 u86 u87 u88 u89 u90 u91 u92 u93 u94 u95 u96 u97 u98 u99 u100 u101 u102 u103 u104 u105 u106 u107 u108 u109 u110 u111 u112 u113 u114 u115 u116 u117 u118 u119 u120 u121 u122 u123 u124 u125 u126 u127 u128 u129 u130 u131 u132 u133 u134 u135 u136 u137 u138 u139 u140 u141 u142 u143 u144 u145 u146 u147 u148 u149 u150 u151 u152 u153 u154 u155 u156 u157 u158 u159 u160 u161 u162 u163 u164 u165 u166 u167 u168 u169 u170 u171 u172 u173 u174 u175 u176 u177 u178 u179 u180 u181 u182 u183 u184 u185 u186 u187 u188 u189 u190 u191 u192 u193 u194 u195 u196 u197 u198 u199 u200 u201 u202 u203 u204 u205 u206 u207 u208 u209 u210 u211 u212 u213 u214 u215 u216 u217 u218 u219 u220 u221 u222 u223 u224 u225 u226 u227 u228 u229 u230 u231 u232 u233 u234 u235 u236 u237 u238 u239 u240 u241 u242 u243 u244 u245 u246 u247 u248 u249 u250 u251 u252 u253 u254 u255 u256 u257 u258 u259 u260 u261 u262 u263 u264 u265 u266 u267 u268 u269 u270 u271 u272 u273 u274 u275 u276 u277 u278 u279 u280 u281 u282 u283 u284 u285 u286 u287 u288 u289 u290 u291 u292 u293 u294 u295 u296 u297 u298 u299 u300 u301 u302 u303 u304 u305 u306 u307 u308 u309 u310 u311 u312 u313 u314 u315 u316 u317 u318 u319 u320 u321 u322 u323 u324 u325 u326 u327 u328 u329 u330 u331 u332 u333 u334 u335 u336 u337 u338 u339 u340 u341 u342 u343 u344 u345 u346 u347 u348 u349 u350 u351 u352 u353 u354 u355 u356 u357 u358 u359 u360 u361 u362 u363 u364 u365 u366 u367 u368 u369 u370 u371 u372 u373 u374 u375 u376 u377 u378 u379 u380 u381 u382 u383 u384 u385 u386 u387 u388 u389 u390 u391 u392 u393 u394 u395 u396 u397 u398 u399 u400 u401 u402 u403 u404 u405 u406 u407 u408 u409 u410 u411 u412 u413 u414 u415 u416 u417 u418 u419 u420 u421 u422 u423 u424 u425 u426 u427 u428 u429 u430 u431 u432 u433 u434 u435 u436 : Value) (l : List Ad) (ks : List Int) (m lcap kcap : Nat) (ak ao : Option Addr) (st k n up dr : Int) (vs : List V2) (ap : Option Addr) (cp : Nat) (w wo : World)
    (hl : RowG w (.slice ao l.length lcap) 6 l.length (rowOf cellsAd l)) (hbl : Below w.heap.size w wo) (hlt : m < l.length) (hla : l[m] = ⟨st, k, n, vs, .slice ap vs.length cp, up, dr⟩) (rl : vs.length ≤ maxLen) (kl : ks.length ≤ 4) (ml : l.length ≤ 40)
    (hR : ∀ (t : List Value) w', t[6]? = some (.bool true) → Below w.heap.size w w' → Q .ret { tmps := t.toArray, defers := [] } w')
    (hQ : ∀ (v80 v81 v82 v83 v84 v85 v86 v87 v88 v89 v90 v91 v92 v93 v94 v95 v96 v97 v98 v99 v100 v101 v102 v103 v104 v105 v106 v107 v108 v109 v110 v111 v112 v113 v114 v115 v116 v117 v118 v119 v120 v121 v122 v123 v124 v125 : Value)  (w' : World), Below wo.heap.size wo w' ∧ BlkAt w' wo.heap.size [.int .i64 st, .int .i64 k, .int .i64 n, .slice ap vs.length cp, .int .i64 up, .int .i64 dr] ∧ vs.length = ks.length ∧ -1000 ≤ st ∧ st ≤ 9999 ∧ -20000 ≤ up ∧ up ≤ 20000 ∧ -20000 ≤ dr ∧ dr ≤ 20000 → Code.wp Try.prog X (Exit.then (Code.wp Try.prog R Q) Q) { tmps := (.slice ak ks.length kcap :: u1 :: .slice ao l.length lcap :: u3 :: u4 :: u5 :: u6 :: u7 :: u8 :: u9 :: u10 :: u11 :: .int .i64 (m : Int) :: .pointer (some ⟨wo.heap.size, 0, none⟩) :: .int .i64 0 :: u15 :: u16 :: u17 :: u18 :: u19 :: u20 :: u21 :: u22 :: u23 :: u24 :: u25 :: u26 :: u27 :: u28 :: u29 :: u30 :: u31 :: u32 :: u33 :: u34 :: u35 :: u36 :: u37 :: u38 :: u39 :: u40 :: u41 :: u42 :: u43 :: u44 :: u45 :: u46 :: u47 :: u48 :: u49 :: u50 :: u51 :: u52 :: u53 :: u54 :: u55 :: u56 :: u57 :: u58 :: u59 :: u60 :: u61 :: u62 :: u63 :: u64 :: u65 :: u66 :: u67 :: u68 :: u69 :: u70 :: u71 :: u72 :: u73 :: u74 :: u75 :: u76 :: u77 :: u78 :: u79 :: v80 :: v81 :: v82 :: v83 :: v84 :: v85 :: v86 :: v87 :: v88 :: v89 :: v90 :: v91 :: v92 :: v93 :: v94 :: v95 :: v96 :: v97 :: v98 :: v99 :: v100 :: v101 :: v102 :: v103 :: v104 :: v105 :: v106 :: v107 :: v108 :: v109 :: v110 :: v111 :: v112 :: v113 :: v114 :: v115 :: v116 :: v117 :: v118 :: v119 :: v120 :: v121 :: v122 :: v123 :: v124 :: v125 :: u126 :: u127 :: u128 :: u129 :: u130 :: u131 :: u132 :: u133 :: u134 :: u135 :: u136 :: u137 :: u138 :: u139 :: u140 :: u141 :: u142 :: u143 :: u144 :: u145 :: u146 :: u147 :: u148 :: u149 :: u150 :: u151 :: u152 :: u153 :: u154 :: u155 :: u156 :: u157 :: u158 :: u159 :: u160 :: u161 :: u162 :: u163 :: u164 :: u165 :: u166 :: u167 :: u168 :: u169 :: u170 :: u171 :: u172 :: u173 :: u174 :: u175 :: u176 :: u177 :: u178 :: u179 :: u180 :: u181 :: u182 :: u183 :: u184 :: u185 :: u186 :: u187 :: u188 :: u189 :: u190 :: u191 :: u192 :: u193 :: u194 :: u195 :: u196 :: u197 :: u198 :: u199 :: u200 :: u201 :: u202 :: u203 :: u204 :: u205 :: u206 :: u207 :: u208 :: u209 :: u210 :: u211 :: u212 :: u213 :: u214 :: u215 :: u216 :: u217 :: u218 :: u219 :: u220 :: u221 :: u222 :: u223 :: u224 :: u225 :: u226 :: u227 :: u228 :: u229 :: u230 :: u231 :: u232 :: u233 :: u234 :: u235 :: u236 :: u237 :: u238 :: u239 :: u240 :: u241 :: u242 :: u243 :: u244 :: u245 :: u246 :: u247 :: u248 :: u249 :: u250 :: u251 :: u252 :: u253 :: u254 :: u255 :: u256 :: u257 :: u258 :: u259 :: u260 :: u261 :: u262 :: u263 :: u264 :: u265 :: u266 :: u267 :: u268 :: u269 :: u270 :: u271 :: u272 :: u273 :: u274 :: u275 :: u276 :: u277 :: u278 :: u279 :: u280 :: u281 :: u282 :: u283 :: u284 :: u285 :: u286 :: u287 :: u288 :: u289 :: u290 :: u291 :: u292 :: u293 :: u294 :: u295 :: u296 :: u297 :: u298 :: u299 :: u300 :: u301 :: u302 :: u303 :: u304 :: u305 :: u306 :: u307 :: u308 :: u309 :: u310 :: u311 :: u312 :: u313 :: u314 :: u315 :: u316 :: u317 :: u318 :: u319 :: u320 :: u321 :: u322 :: u323 :: u324 :: u325 :: u326 :: u327 :: u328 :: u329 :: u330 :: u331 :: u332 :: u333 :: u334 :: u335 :: u336 :: u337 :: u338 :: u339 :: u340 :: u341 :: u342 :: u343 :: u344 :: u345 :: u346 :: u347 :: u348 :: u349 :: u350 :: u351 :: u352 :: u353 :: u354 :: u355 :: u356 :: u357 :: u358 :: u359 :: u360 :: u361 :: u362 :: u363 :: u364 :: u365 :: u366 :: u367 :: u368 :: u369 :: u370 :: u371 :: u372 :: u373 :: u374 :: u375 :: u376 :: u377 :: u378 :: u379 :: u380 :: u381 :: u382 :: u383 :: u384 :: u385 :: u386 :: u387 :: u388 :: u389 :: u390 :: u391 :: u392 :: u393 :: u394 :: u395 :: u396 :: u397 :: u398 :: u399 :: u400 :: u401 :: u402 :: u403 :: u404 :: u405 :: u406 :: u407 :: u408 :: u409 :: u410 :: u411 :: u412 :: u413 :: u414 :: u415 :: u416 :: u417 :: u418 :: u419 :: u420 :: u421 :: u422 :: u423 :: u424 :: u425 :: u426 :: u427 :: u428 :: u429 :: u430 :: u431 :: u432 :: u433 :: u434 :: u435 :: u436 :: []).toArray, defers := [] } w') :
    Code.wp Try.prog (.seq C15 (.seq (.seq C16 (.cond (.tmp 125) (.seq C17 .ret) .skip)) (.seq (.seq C18 X) R))) Q { tmps := (.slice ak ks.length kcap :: u1 :: .slice ao l.length lcap :: u3 :: u4 :: u5 :: u6 :: u7 :: u8 :: u9 :: u10 :: u11 :: .int .i64 (m : Int) :: u13 :: u14 :: u15 :: u16 :: u17 :: u18 :: u19 :: u20 :: u21 :: u22 :: u23 :: u24 :: u25 :: u26 :: u27 :: u28 :: u29 :: u30 :: u31 :: u32 :: u33 :: u34 :: u35 :: u36 :: u37 :: u38 :: u39 :: u40 :: u41 :: u42 :: u43 :: u44 :: u45 :: u46 :: u47 :: u48 :: u49 :: u50 :: u51 :: u52 :: u53 :: u54 :: u55 :: u56 :: u57 :: u58 :: u59 :: u60 :: u61 :: u62 :: u63 :: u64 :: u65 :: u66 :: u67 :: u68 :: u69 :: u70 :: u71 :: u72 :: u73 :: u74 :: u75 :: u76 :: u77 :: u78 :: u79 :: u80 :: u81 :: u82 :: u83 :: u84 :: u85 :: u86 :: u87 :: u88 :: u89 :: u90 :: u91 :: u92 :: u93 :: u94 :: u95 :: u96 :: u97 :: u98 :: u99 :: u100 :: u101 :: u102 :: u103 :: u104 :: u105 :: u106 :: u107 :: u108 :: u109 :: u110 :: u111 :: u112 :: u113 :: u114 :: u115 :: u116 :: u117 :: u118 :: u119 :: u120 :: u121 :: u122 :: u123 :: u124 :: u125 :: u126 :: u127 :: u128 :: u129 :: u130 :: u131 :: u132 :: u133 :: u134 :: u135 :: u136 :: u137 :: u138 :: u139 :: u140 :: u141 :: u142 :: u143 :: u144 :: u145 :: u146 :: u147 :: u148 :: u149 :: u150 :: u151 :: u152 :: u153 :: u154 :: u155 :: u156 :: u157 :: u158 :: u159 :: u160 :: u161 :: u162 :: u163 :: u164 :: u165 :: u166 :: u167 :: u168 :: u169 :: u170 :: u171 :: u172 :: u173 :: u174 :: u175 :: u176 :: u177 :: u178 :: u179 :: u180 :: u181 :: u182 :: u183 :: u184 :: u185 :: u186 :: u187 :: u188 :: u189 :: u190 :: u191 :: u192 :: u193 :: u194 :: u195 :: u196 :: u197 :: u198 :: u199 :: u200 :: u201 :: u202 :: u203 :: u204 :: u205 :: u206 :: u207 :: u208 :: u209 :: u210 :: u211 :: u212 :: u213 :: u214 :: u215 :: u216 :: u217 :: u218 :: u219 :: u220 :: u221 :: u222 :: u223 :: u224 :: u225 :: u226 :: u227 :: u228 :: u229 :: u230 :: u231 :: u232 :: u233 :: u234 :: u235 :: u236 :: u237 :: u238 :: u239 :: u240 :: u241 :: u242 :: u243 :: u244 :: u245 :: u246 :: u247 :: u248 :: u249 :: u250 :: u251 :: u252 :: u253 :: u254 :: u255 :: u256 :: u257 :: u258 :: u259 :: u260 :: u261 :: u262 :: u263 :: u264 :: u265 :: u266 :: u267 :: u268 :: u269 :: u270 :: u271 :: u272 :: u273 :: u274 :: u275 :: u276 :: u277 :: u278 :: u279 :: u280 :: u281 :: u282 :: u283 :: u284 :: u285 :: u286 :: u287 :: u288 :: u289 :: u290 :: u291 :: u292 :: u293 :: u294 :: u295 :: u296 :: u297 :: u298 :: u299 :: u300 :: u301 :: u302 :: u303 :: u304 :: u305 :: u306 :: u307 :: u308 :: u309 :: u310 :: u311 :: u312 :: u313 :: u314 :: u315 :: u316 :: u317 :: u318 :: u319 :: u320 :: u321 :: u322 :: u323 :: u324 :: u325 :: u326 :: u327 :: u328 :: u329 :: u330 :: u331 :: u332 :: u333 :: u334 :: u335 :: u336 :: u337 :: u338 :: u339 :: u340 :: u341 :: u342 :: u343 :: u344 :: u345 :: u346 :: u347 :: u348 :: u349 :: u350 :: u351 :: u352 :: u353 :: u354 :: u355 :: u356 :: u357 :: u358 :: u359 :: u360 :: u361 :: u362 :: u363 :: u364 :: u365 :: u366 :: u367 :: u368 :: u369 :: u370 :: u371 :: u372 :: u373 :: u374 :: u375 :: u376 :: u377 :: u378 :: u379 :: u380 :: u381 :: u382 :: u383 :: u384 :: u385 :: u386 :: u387 :: u388 :: u389 :: u390 :: u391 :: u392 :: u393 :: u394 :: u395 :: u396 :: u397 :: u398 :: u399 :: u400 :: u401 :: u402 :: u403 :: u404 :: u405 :: u406 :: u407 :: u408 :: u409 :: u410 :: u411 :: u412 :: u413 :: u414 :: u415 :: u416 :: u417 :: u418 :: u419 :: u420 :: u421 :: u422 :: u423 :: u424 :: u425 :: u426 :: u427 :: u428 :: u429 :: u430 :: u431 :: u432 :: u433 :: u434 :: u435 :: u436 :: []).toArray, defers := [] } wo := by
  have HR := hidE hR
  have HQ := hidE hQ
  clear hR hQ
  obtain ⟨g, off, rfl, hcell, q1, q2, lg⟩ := rowOf_val cellsAd_len (rowG_below hl hbl) m hlt
  rw [hla] at hcell
  have y0 : wo.cell? ⟨g, off + m * 6, none⟩ = some (.int .i64 st) := hcell 0 (by omega)
  have y1 : wo.cell? ⟨g, off + m * 6 + 1, none⟩ = some (.int .i64 k) := hcell 1 (by omega)
  have y2 : wo.cell? ⟨g, off + m * 6 + 2, none⟩ = some (.int .i64 n) := hcell 2 (by omega)
  have y3 : wo.cell? ⟨g, off + m * 6 + 3, none⟩ = some (.slice ap vs.length cp) := hcell 3 (by omega)
  have y4 : wo.cell? ⟨g, off + m * 6 + 4, none⟩ = some (.int .i64 up) := hcell 4 (by omega)
  have y5 : wo.cell? ⟨g, off + m * 6 + 5, none⟩ = some (.int .i64 dr) := hcell 5 (by omega)
  unfold maxLen at q2 rl
  have AA := hidE (blk_alloc wo [.int .i64 st, .int .i64 k, .int .i64 n, .slice ap vs.length cp, .int .i64 up, .int .i64 dr] 89 (by simp))
  have BA := hidE (below_alloc wo (.cells #[.int .i64 st, .int .i64 k, .int .i64 n, .slice ap vs.length cp, .int .i64 up, .int .i64 dr] 89))
  have HW := hidE (hbl.trans (BA.out.mono hbl.size))
  have HBL := hidE hbl
  have GD := hidE (fun w => good_any k n w)
  clear hcell hla hl hbl
  unfold Try.f7 at h15
  simp [rgn] at h15
  subst h15
  unfold Try.f7 at h16
  simp [rgn] at h16
  subst h16
  unfold Try.f7 at h17
  simp [rgn] at h17
  subst h17
  unfold Try.f7 at h18
  simp [rgn] at h18
  subst h18
  by_cases e1 : vs.length = ks.length
  case neg =>
    have d1 : ((vs.length : Int) != (ks.length : Int)) = true := by simp; omega
    go_wp2_with fail
    exact HR.out _ _ rfl HW.out
  have d1 : ((vs.length : Int) != (ks.length : Int)) = false := by simp; omega
  have VL := hidE e1
  clear e1
  by_cases e2 : -1000 ≤ st
  case neg =>
    have d2 : decide (st < -1000) = true := by simp; omega
    go_wp2_with fail
    exact HR.out _ _ rfl HW.out
  have d2 : decide (st < -1000) = false := by simp; omega
  by_cases e3 : st ≤ 9999
  case neg =>
    have d3 : decide (9999 < st) = true := by simp; omega
    go_wp2_with fail
    exact HR.out _ _ rfl HW.out
  have d3 : decide (9999 < st) = false := by simp; omega
  generalize vok k n = vk at *
  go_wp2_with fail
  refine (GD.out _).mono ?_
  rintro e w3 ⟨rfl, hb⟩
  have A3 := hidE (blk_below AA.out hb AA.out.lt)
  have B3 := hidE (BA.out.trans (hb.mono BA.out.size))
  have HW := hidE (HBL.out.trans (B3.out.mono HBL.out.size))
  clear hb AA BA GD y0 y1 y2 y3 y4 y5 d1 d2 d3
  have x4 : w3.cell? ⟨wo.heap.size, 4, none⟩ = some (.int .i64 up) := A3.out.c 4 (by simp)
  have x5 : w3.cell? ⟨wo.heap.size, 5, none⟩ = some (.int .i64 dr) := A3.out.c 5 (by simp)
  cases vk with
  | false =>
    go_wp2_with fail
    exact HR.out _ _ rfl HW.out
  | true =>
  by_cases e4 : -20000 ≤ up
  case neg =>
    have d4 : decide (up < -20000) = true := by simp; omega
    go_wp2_with fail
    exact HR.out _ _ rfl HW.out
  have d4 : decide (up < -20000) = false := by simp; omega
  by_cases e5 : up ≤ 20000
  case neg =>
    have d5 : decide (20000 < up) = true := by simp; omega
    go_wp2_with fail
    exact HR.out _ _ rfl HW.out
  have d5 : decide (20000 < up) = false := by simp; omega
  by_cases e6 : -20000 ≤ dr
  case neg =>
    have d6 : decide (dr < -20000) = true := by simp; omega
    go_wp2_with fail
    exact HR.out _ _ rfl HW.out
  have d6 : decide (dr < -20000) = false := by simp; omega
  by_cases e7 : dr ≤ 20000
  case neg =>
    have d7 : decide (20000 < dr) = true := by simp; omega
    go_wp2_with fail
    exact HR.out _ _ rfl HW.out
  have d7 : decide (20000 < dr) = false := by simp; omega
  go_wp2_with fail
  rename_i K9 hK9
  exact wp_then (HQ.out _ _ _ _ _ _ _ _ _ _ _ _ _ _ _ _ _ _ _ _ _ _ _ _ _ _ _ _ _ _ _ _ _ _ _ _ _ _ _ _ _ _ _ _ _ _ w3 ⟨B3.out, A3.out, VL.out, e2, e3, e4, e5, e6, e7⟩) hK9
end Go.Proofs.Ytoihjhhambgpfab

/- The law PanesSays' append and its call of Tell, over this seat's translation, as a theorem of its own. Conditions: as named. -/
import Derived.Test.YtoihjhhambgpfabPaneZ
import Derived.Test.YtoihjhhambgpfabHeldF
namespace Go.Proofs.Ytoihjhhambgpfab
open Go.ChangeShapes Go.WideShapes Go.ChangeAt Go.RowKit
set_option linter.unusedVariables false
set_option linter.unusedSimpArgs false

set_option maxRecDepth 100000 in
set_option maxHeartbeats 8000000 in
theorem segC (Q : Exit → Act → World → Prop) (X R : Code) (C28 : Code) (h28 : rgn 28 (Try.f7.body.getD .skip) = some C28) (C29 : Code) (h29 : rgn 29 (Try.f7.body.getD .skip) = some C29) (C30 : Code) (h30 : rgn 30 (Try.f7.body.getD .skip) = some C30) (C31 : Code) (h31 : rgn 31 (Try.f7.body.getD .skip) = some C31) (u0 u2 u3 u4 u5 u6 u7 u8 u11 u12 u14 u15 u16 u18 u19 u20 u21 u22 u23 u24 u25 u26 u27 u28 u29 u30 u31 u32 u33 u34 u35 u36 u37 u38 u39 u40 u41 u42 u43 u44 u45 u46 u47 u48 u49 u50 u51 u52 u53 u54 u55 u56 u57 u58 u59 u60 u61 u62 u63 u64 u65 u66 u67 u68 u69 u70 u71 u72 u73 u74 u75 u76 u77 u78 u79 u80 u81 u82 u83 u84 u85 u86 u87 u88 u89 u90 u91 u92 u93 u94 u95 u96 u97 u98 u99 u100 u101 u102 u103 u104 u105 u106 u107 u108 u109 u110 u111 u112 u113 u114 u115 u116 u117 u118 u119 u120 u121 u122 u123 u124 u125 u126 u127 u128 u129 u130 u131 u132 u133 u134 u135 u136 u137 u138 u139 u140 u141 u142 u143 u144 u145 u146 u147 u148 u149 u150 u151 u152 u153 u154 u155 u156 u157 u158 u159 u160 u161 u162 u163 u164 u165 u166 u167 u168 u169 u170 u171 u172 u173 u174 u175 u176 u177 u178 u179 u180 u181 u182 u183 u184 u185 u186 u187 u188 u189 u190 u191 u192 u193 u194 u195 u196 u197 u198 u199 u200 u201 u202 u203 u204 u205 u206 u207 u208 u209 u210 u211 u212 u213 u214 u215 u216 u217 u218 u219 u220 u221 u222 u223 u224 u225 u226 u227 u228 u229 u230 u231 u232 u233 u234 u235 u236 u237 u238 u239 u240 u241 u242 u243 u244 u245 u246 u247 u248 u249 u250 u251 u252 u253 u254 u255 u256 u257 u258 u259 u260 u261 u262 u263 u264 u265 u266 u267 u268 u269 u270 u271 u272 u273 u274 u275 u276 u277 u278 u279 u280 u281 u282 u283 u284 u285 u286 u287 u288 u289 u290 u291 u292 u293 u294 u295 u296 u297 u298 u299 u300 u301 u302 u303 u304 u305 u306 u307 u308 u309 u310 u311 u312 u313 u314 u315 u316 u317 u318 u319 u320 u321 u322 u323 u324 u325 u326 u327 u328 u329 u330 u331 u332 u333 u334 u335 u336 u337 u338 u339 u340 u341 u342 u343 u344 u345 u346 u347 u348 u349 u350 u351 u352 u353 u354 u355 u356 u357 u358 u359 u360 u361 u362 u363 u364 u365 u366 u367 u368 u369 u370 u371 u372 u373 u374 u375 u376 u377 u378 u379 u380 u381 u382 u383 u384 u385 u386 u387 u388 u389 u390 u391 u392 u393 u394 u395 u396 u397 u398 u399 u400 u401 u402 u403 u404 u405 u406 u407 u408 u409 u410 u411 u412 u413 u414 u415 u416 u417 u418 u419 u420 u421 u422 u423 u424 u425 u426 u427 u428 u429 u430 u431 u432 u433 u434 u435 u436 : Value) (al : List Ad) (ks : List Int) (K : List K3) (ps1 : List Pn) (size : Int) (B gt gm ga gn ca : Nat) (aa : Option Addr) (tv u : Value) (st k n up dr : Int) (vs : List V2) (ap : Option Addr) (cp : Nat) (w w8 : World)
    (c1 : ks.length ≤ 4) (hPI : PInv w w8 B gt gm tv u (.slice aa al.length ca) ps1 al K) (hP : PP ks (al ++ [⟨st, k, n, vs, .slice ap vs.length cp, up, dr⟩]) ps1 K) (hal : al.length ≤ 50) (ba : BlkAt w8 ga [.int .i64 st, .int .i64 k, .int .i64 n, .slice ap vs.length cp, .int .i64 up, .int .i64 dr]) (bn : BlkAt w8 gn [u]) (hus : ∃ ao n cap, u = .slice ao n cap) (hts : ∃ ao n cap, tv = .slice ao n cap) (hna : ∀ k, (Value.slice aa al.length ca).ownBlock = some k → k ≠ ga ∧ k ≠ gn) (hgt : gt ≠ ga) (c3 : 1 ≤ size) (c4 : size ≤ 1000)
    (hQ : ∀ (v223 v224 v225 v226 v227 v228 v229 v230 v231 v232 v233 v234 v235 : Value) (a9 : Option Addr) (c9 : Nat) (a2 : Option Addr) (c2 : Nat) (a3 : Option Addr) (c3' : Nat) (T : List Pn) (gnow : Nat) (w' : World), PInv w w' B gt gm u (.slice a2 ps1.length c2) (.slice a9 (al.length + 1) c9) (ps1.map (tellP size up)) (al ++ [⟨st, k, n, vs, .slice ap vs.length cp, up, dr⟩]) K ∧ PP ks (al ++ [⟨st, k, n, vs, .slice ap vs.length cp, up, dr⟩]) (ps1.map (tellP size up)) (K ++ dueK size up ps1) ∧ BlkAt w' ga [.int .i64 st, .int .i64 k, .int .i64 n, .slice ap vs.length cp, .int .i64 up, .int .i64 dr] ∧ BlkAt w' gnow [.slice a2 ps1.length c2] ∧ (gnow ≠ gm ∧ gnow ≠ gt) ∧ TblR w' (.slice a3 T.length c3') T ∧ (∀ k, (Value.slice a3 T.length c3').ownBlock = some k → k ≠ gm) ∧ T.map keyP = (ps1.filter (isDue size up)).map keyP → Code.wp Try.prog X (Exit.then (Code.wp Try.prog R Q) Q) { tmps := (u0 :: .int .i64 size :: u2 :: u3 :: u4 :: u5 :: u6 :: u7 :: u8 :: .pointer (some ⟨gt, 0, none⟩) :: .slice a9 (al.length + 1) c9 :: u11 :: u12 :: .pointer (some ⟨ga, 0, none⟩) :: u14 :: u15 :: u16 :: .pointer (some ⟨gn, 0, none⟩) :: u18 :: u19 :: .pointer (some ⟨gnow, 0, none⟩) :: .slice a3 T.length c3' :: .int .i64 0 :: u23 :: u24 :: u25 :: u26 :: u27 :: u28 :: u29 :: u30 :: u31 :: u32 :: u33 :: u34 :: u35 :: u36 :: u37 :: u38 :: u39 :: u40 :: u41 :: u42 :: u43 :: u44 :: u45 :: u46 :: u47 :: u48 :: u49 :: u50 :: u51 :: u52 :: u53 :: u54 :: u55 :: u56 :: u57 :: u58 :: u59 :: u60 :: u61 :: u62 :: u63 :: u64 :: u65 :: u66 :: u67 :: u68 :: u69 :: u70 :: u71 :: u72 :: u73 :: u74 :: u75 :: u76 :: u77 :: u78 :: u79 :: u80 :: u81 :: u82 :: u83 :: u84 :: u85 :: u86 :: u87 :: u88 :: u89 :: u90 :: u91 :: u92 :: u93 :: u94 :: u95 :: u96 :: u97 :: u98 :: u99 :: u100 :: u101 :: u102 :: u103 :: u104 :: u105 :: u106 :: u107 :: u108 :: u109 :: u110 :: u111 :: u112 :: u113 :: u114 :: u115 :: u116 :: u117 :: u118 :: u119 :: u120 :: u121 :: u122 :: u123 :: u124 :: u125 :: u126 :: u127 :: u128 :: u129 :: u130 :: u131 :: u132 :: u133 :: u134 :: u135 :: u136 :: u137 :: u138 :: u139 :: u140 :: u141 :: u142 :: u143 :: u144 :: u145 :: u146 :: u147 :: u148 :: u149 :: u150 :: u151 :: u152 :: u153 :: u154 :: u155 :: u156 :: u157 :: u158 :: u159 :: u160 :: u161 :: u162 :: u163 :: u164 :: u165 :: u166 :: u167 :: u168 :: u169 :: u170 :: u171 :: u172 :: u173 :: u174 :: u175 :: u176 :: u177 :: u178 :: u179 :: u180 :: u181 :: u182 :: u183 :: u184 :: u185 :: u186 :: u187 :: u188 :: u189 :: u190 :: u191 :: u192 :: u193 :: u194 :: u195 :: u196 :: u197 :: u198 :: u199 :: u200 :: u201 :: u202 :: u203 :: u204 :: u205 :: u206 :: u207 :: u208 :: u209 :: u210 :: u211 :: u212 :: u213 :: u214 :: u215 :: u216 :: u217 :: u218 :: u219 :: u220 :: u221 :: u222 :: v223 :: v224 :: v225 :: v226 :: v227 :: v228 :: v229 :: v230 :: v231 :: v232 :: v233 :: v234 :: v235 :: u236 :: u237 :: u238 :: u239 :: u240 :: u241 :: u242 :: u243 :: u244 :: u245 :: u246 :: u247 :: u248 :: u249 :: u250 :: u251 :: u252 :: u253 :: u254 :: u255 :: u256 :: u257 :: u258 :: u259 :: u260 :: u261 :: u262 :: u263 :: u264 :: u265 :: u266 :: u267 :: u268 :: u269 :: u270 :: u271 :: u272 :: u273 :: u274 :: u275 :: u276 :: u277 :: u278 :: u279 :: u280 :: u281 :: u282 :: u283 :: u284 :: u285 :: u286 :: u287 :: u288 :: u289 :: u290 :: u291 :: u292 :: u293 :: u294 :: u295 :: u296 :: u297 :: u298 :: u299 :: u300 :: u301 :: u302 :: u303 :: u304 :: u305 :: u306 :: u307 :: u308 :: u309 :: u310 :: u311 :: u312 :: u313 :: u314 :: u315 :: u316 :: u317 :: u318 :: u319 :: u320 :: u321 :: u322 :: u323 :: u324 :: u325 :: u326 :: u327 :: u328 :: u329 :: u330 :: u331 :: u332 :: u333 :: u334 :: u335 :: u336 :: u337 :: u338 :: u339 :: u340 :: u341 :: u342 :: u343 :: u344 :: u345 :: u346 :: u347 :: u348 :: u349 :: u350 :: u351 :: u352 :: u353 :: u354 :: u355 :: u356 :: u357 :: u358 :: u359 :: u360 :: u361 :: u362 :: u363 :: u364 :: u365 :: u366 :: u367 :: u368 :: u369 :: u370 :: u371 :: u372 :: u373 :: u374 :: u375 :: u376 :: u377 :: u378 :: u379 :: u380 :: u381 :: u382 :: u383 :: u384 :: u385 :: u386 :: u387 :: u388 :: u389 :: u390 :: u391 :: u392 :: u393 :: u394 :: u395 :: u396 :: u397 :: u398 :: u399 :: u400 :: u401 :: u402 :: u403 :: u404 :: u405 :: u406 :: u407 :: u408 :: u409 :: u410 :: u411 :: u412 :: u413 :: u414 :: u415 :: u416 :: u417 :: u418 :: u419 :: u420 :: u421 :: u422 :: u423 :: u424 :: u425 :: u426 :: u427 :: u428 :: u429 :: u430 :: u431 :: u432 :: u433 :: u434 :: u435 :: u436 :: []).toArray, defers := [] } w') :
    Code.wp Try.prog (.seq C28 (.seq C29 (.seq C30 (.seq (.seq C31 X) R)))) Q { tmps := (u0 :: .int .i64 size :: u2 :: u3 :: u4 :: u5 :: u6 :: u7 :: u8 :: .pointer (some ⟨gt, 0, none⟩) :: .slice aa al.length ca :: u11 :: u12 :: .pointer (some ⟨ga, 0, none⟩) :: u14 :: u15 :: u16 :: .pointer (some ⟨gn, 0, none⟩) :: u18 :: u19 :: u20 :: u21 :: u22 :: u23 :: u24 :: u25 :: u26 :: u27 :: u28 :: u29 :: u30 :: u31 :: u32 :: u33 :: u34 :: u35 :: u36 :: u37 :: u38 :: u39 :: u40 :: u41 :: u42 :: u43 :: u44 :: u45 :: u46 :: u47 :: u48 :: u49 :: u50 :: u51 :: u52 :: u53 :: u54 :: u55 :: u56 :: u57 :: u58 :: u59 :: u60 :: u61 :: u62 :: u63 :: u64 :: u65 :: u66 :: u67 :: u68 :: u69 :: u70 :: u71 :: u72 :: u73 :: u74 :: u75 :: u76 :: u77 :: u78 :: u79 :: u80 :: u81 :: u82 :: u83 :: u84 :: u85 :: u86 :: u87 :: u88 :: u89 :: u90 :: u91 :: u92 :: u93 :: u94 :: u95 :: u96 :: u97 :: u98 :: u99 :: u100 :: u101 :: u102 :: u103 :: u104 :: u105 :: u106 :: u107 :: u108 :: u109 :: u110 :: u111 :: u112 :: u113 :: u114 :: u115 :: u116 :: u117 :: u118 :: u119 :: u120 :: u121 :: u122 :: u123 :: u124 :: u125 :: u126 :: u127 :: u128 :: u129 :: u130 :: u131 :: u132 :: u133 :: u134 :: u135 :: u136 :: u137 :: u138 :: u139 :: u140 :: u141 :: u142 :: u143 :: u144 :: u145 :: u146 :: u147 :: u148 :: u149 :: u150 :: u151 :: u152 :: u153 :: u154 :: u155 :: u156 :: u157 :: u158 :: u159 :: u160 :: u161 :: u162 :: u163 :: u164 :: u165 :: u166 :: u167 :: u168 :: u169 :: u170 :: u171 :: u172 :: u173 :: u174 :: u175 :: u176 :: u177 :: u178 :: u179 :: u180 :: u181 :: u182 :: u183 :: u184 :: u185 :: u186 :: u187 :: u188 :: u189 :: u190 :: u191 :: u192 :: u193 :: u194 :: u195 :: u196 :: u197 :: u198 :: u199 :: u200 :: u201 :: u202 :: u203 :: u204 :: u205 :: u206 :: u207 :: u208 :: u209 :: u210 :: u211 :: u212 :: u213 :: u214 :: u215 :: u216 :: u217 :: u218 :: u219 :: u220 :: u221 :: u222 :: u223 :: u224 :: u225 :: u226 :: u227 :: u228 :: u229 :: u230 :: u231 :: u232 :: u233 :: u234 :: u235 :: u236 :: u237 :: u238 :: u239 :: u240 :: u241 :: u242 :: u243 :: u244 :: u245 :: u246 :: u247 :: u248 :: u249 :: u250 :: u251 :: u252 :: u253 :: u254 :: u255 :: u256 :: u257 :: u258 :: u259 :: u260 :: u261 :: u262 :: u263 :: u264 :: u265 :: u266 :: u267 :: u268 :: u269 :: u270 :: u271 :: u272 :: u273 :: u274 :: u275 :: u276 :: u277 :: u278 :: u279 :: u280 :: u281 :: u282 :: u283 :: u284 :: u285 :: u286 :: u287 :: u288 :: u289 :: u290 :: u291 :: u292 :: u293 :: u294 :: u295 :: u296 :: u297 :: u298 :: u299 :: u300 :: u301 :: u302 :: u303 :: u304 :: u305 :: u306 :: u307 :: u308 :: u309 :: u310 :: u311 :: u312 :: u313 :: u314 :: u315 :: u316 :: u317 :: u318 :: u319 :: u320 :: u321 :: u322 :: u323 :: u324 :: u325 :: u326 :: u327 :: u328 :: u329 :: u330 :: u331 :: u332 :: u333 :: u334 :: u335 :: u336 :: u337 :: u338 :: u339 :: u340 :: u341 :: u342 :: u343 :: u344 :: u345 :: u346 :: u347 :: u348 :: u349 :: u350 :: u351 :: u352 :: u353 :: u354 :: u355 :: u356 :: u357 :: u358 :: u359 :: u360 :: u361 :: u362 :: u363 :: u364 :: u365 :: u366 :: u367 :: u368 :: u369 :: u370 :: u371 :: u372 :: u373 :: u374 :: u375 :: u376 :: u377 :: u378 :: u379 :: u380 :: u381 :: u382 :: u383 :: u384 :: u385 :: u386 :: u387 :: u388 :: u389 :: u390 :: u391 :: u392 :: u393 :: u394 :: u395 :: u396 :: u397 :: u398 :: u399 :: u400 :: u401 :: u402 :: u403 :: u404 :: u405 :: u406 :: u407 :: u408 :: u409 :: u410 :: u411 :: u412 :: u413 :: u414 :: u415 :: u416 :: u417 :: u418 :: u419 :: u420 :: u421 :: u422 :: u423 :: u424 :: u425 :: u426 :: u427 :: u428 :: u429 :: u430 :: u431 :: u432 :: u433 :: u434 :: u435 :: u436 :: []).toArray, defers := [] } w8 := by
  obtain ⟨i0, hi, hz0, hz1, hz2⟩ := info_parts infoAd
  have HQ := hidE hQ
  have PI8 := hidE hPI
  have PQ8 := hidE hP
  have A8 := hidE ba
  have N8 := hidE bn
  have AV := hidE hna
  obtain ⟨au, nu, cu, rfl⟩ := hus
  obtain ⟨at2, nt2, ct2, rfl⟩ := hts
  have x0 : w8.cell? ⟨ga, 0, none⟩ = some (.int .i64 st) := ba.c 0 (by simp)
  have x1 : w8.cell? ⟨ga, 1, none⟩ = some (.int .i64 k) := ba.c 1 (by simp)
  have x2 : w8.cell? ⟨ga, 2, none⟩ = some (.int .i64 n) := ba.c 2 (by simp)
  have x3 : w8.cell? ⟨ga, 3, none⟩ = some (.slice ap vs.length cp) := ba.c 3 (by simp)
  have x4 : w8.cell? ⟨ga, 4, none⟩ = some (.int .i64 up) := ba.c 4 (by simp)
  have x5 : w8.cell? ⟨ga, 5, none⟩ = some (.int .i64 dr) := ba.c 5 (by simp)
  have hga := ba.lt
  have HRV := hidE (own_keep PI8.out.ar (below_alloc w8 (.cells #[.int .i64 st, .int .i64 k, .int .i64 n, .slice ap vs.length cp, .int .i64 up, .int .i64 dr] 89)) (Nat.le_refl _))
  have HSZ : Hid (B ≤ (w8.alloc (.cells #[.int .i64 st, .int .i64 k, .int .i64 n, .slice ap vs.length cp, .int .i64 up, .int .i64 dr] 89)).heap.size) := hidE (by have := PI8.out.sz; have := (below_alloc w8 (.cells #[.int .i64 st, .int .i64 k, .int .i64 n, .slice ap vs.length cp, .int .i64 up, .int .i64 dr] 89)).size; omega)
  have CN := hidE (cells6 w8 ⟨st, k, n, vs, .slice ap vs.length cp, up, dr⟩ w8.heap.size 89 rfl)
  clear hQ hPI hP ba bn hna
  unfold Try.f7 at h28
  simp [rgn] at h28
  subst h28
  unfold Try.f7 at h29
  simp [rgn] at h29
  subst h29
  unfold Try.f7 at h30
  simp [rgn] at h30
  subst h30
  unfold Try.f7 at h31
  simp [rgn] at h31
  subst h31
  go_wp2_with (at_builtin; go_must (refine wpList_append_own_at _ rfl (.tmp 223) (.tmp 225) 83 rfl B 89 i0 (.agg #[.int .i64 0, .int .i64 0, .int .i64 0, .slice none 0 0, .int .i64 0, .int .i64 0]) 6 64 Try.underlying83 hi hz0 hz1 hz2 rfl (by decide) _ _ _ rfl HRV.out _ 1 1 (cellsAd ⟨st, k, n, vs, .slice ap vs.length cp, up, dr⟩) rfl rfl CN.out (by simp [cellsAd, Value.oneCell']) (by show _ ≤ 2 ^ 63 - 1; omega) (by omega) HSZ.out ?_))
  intro av' w9 ho hg9 _ hob
  obtain ⟨PI9, K9⟩ := pinv_append ⟨st, k, n, vs, .slice ap vs.length cp, up, dr⟩ PI8.out (below_alloc w8 (.cells #[.int .i64 st, .int .i64 k, .int .i64 n, .slice ap vs.length cp, .int .i64 up, .int .i64 dr] 89)) ho hg9 (by simpa using hob)
  have A9 := blk_kept A8.out K9 (fun e => (AV.out _ e).1 rfl)
  have N9 := blk_kept N8.out K9 (fun e => (AV.out _ e).2 rfl)
  obtain ⟨a9, c9, rfl⟩ := owns_shapeE ho
  have gnc : w9.cell? ⟨gn, 0, none⟩ = some (.slice au nu cu) := N9.c 0 (by simp)
  have gtc : w9.cell? ⟨gt, 0, none⟩ = some (.slice at2 nt2 ct2) := PI9.tb.c 0 (by simp)
  have gtf := PI9.tb.fz 0
  have PI10 := hidE (pinv_store PI9 (.slice au nu cu))
  have A10 := hidE (blk_far A9 (g' := gt) hgt 0 (.slice au nu cu))
  have gtd : (w9.setCell ⟨gt, 0, none⟩ (.slice au nu cu)).cell? ⟨gt, 0, none⟩ = some (.slice au nu cu) := PI10.out.tb.c 0 (by simp)
  have y4 : (w9.setCell ⟨gt, 0, none⟩ (.slice au nu cu)).cell? ⟨ga, 4, none⟩ = some (.int .i64 up) := A10.out.c 4 (by simp)
  have TE := hidE (tell_any ps1 (.slice au nu cu) size up _ PI10.out.tr (by have := pp_small PQ8.out; simp at this; omega) (pp_st PQ8.out) c3 (by omega) (fun p hp => by rw [pp_len PQ8.out p hp]; omega))
  clear ho hg9 hob PI9 K9 A9 N9 A8 N8 PI8 HRV HSZ CN x0 x1 x2 x3 x4 x5
  go_wp2_with fail
  refine TE.out.mono ?_
  rintro e w11 ⟨u2, tl, T, rfl, ht2, htl, hkeys, ⟨hf2, hf3⟩, hb⟩
  have PI11 := hidE (pinv_table PI10.out hb ht2 hf2 (fun q hq => by
    obtain ⟨p, hp, rfl⟩ := List.mem_map.1 hq
    exact .inr ⟨p, hp, (tellP_av size up p).symm⟩))
  have PQ11 := hidE (pp_tell PQ8.out size up)
  have A11 := hidE (blk_below A10.out hb A10.out.lt)
  have TL := hidE htl
  have GM : Hid (∀ k, (tl).ownBlock = some k → k ≠ gm) := fun k hk e => by
    have h1 := hf3 k hk
    have h2 := PI10.out.sz
    have h3 := PI10.out.g2
    omega
  have HKE := hidE hkeys
  obtain ⟨a2, c2', rfl⟩ := slice_len ht2.row (List.length_map _)
  obtain ⟨a3, c3', rfl⟩ := rowS_shape htl.row
  have NG : Hid (w11.heap.size ≠ gm ∧ w11.heap.size ≠ gt) := by
    have h2 := PI11.out.sz
    have h3 := PI11.out.g2
    have h4 := PI11.out.g1
    exact ⟨by omega, by omega⟩
  clear ht2 htl hkeys hf2 hb TE PI10 A10 gnc gtc gtf gtd y4 hf3
  have PI12 := hidE (pinv_below PI11.out (below_alloc w11 (.cells #[.slice a2 ps1.length c2'] 86)))
  have A12 := hidE (blk_below A11.out (below_alloc w11 (.cells #[.slice a2 ps1.length c2'] 86)) A11.out.lt)
  have NW := hidE (blk_alloc w11 [.slice a2 ps1.length c2'] 86 (by simp))
  have TL12 := hidE (tblR_below TL.out (below_alloc w11 (.cells #[.slice a2 ps1.length c2'] 86)))
  clear PI11 A11 TL
  go_wp2_with fail
  rename_i K9 hK9
  exact wp_then (HQ.out _ _ _ _ _ _ _ _ _ _ _ _ _ a9 c9 a2 c2' a3 c3' T _ _ ⟨PI12.out, PQ11.out, A12.out, NW.out, NG.out, TL12.out, GM.out, HKE.out⟩) hK9
end Go.Proofs.Ytoihjhhambgpfab

/- The law PanesSays' calls of of and Add, over this seat's translation, as a theorem of its own. Conditions: as named. -/
import Derived.Test.YtoihjhhambgpfabPaneZ
import Derived.Deep.DeepCutAuto
namespace Go.Proofs.Ytoihjhhambgpfab
open Go.ChangeShapes Go.WideShapes Go.ChangeAt Go.RowKit
set_option linter.unusedVariables false
set_option linter.unusedSimpArgs false

set_option maxRecDepth 100000 in
set_option maxHeartbeats 8000000 in
theorem segB (Q : Exit → Act → World → Prop) (R : Code) (C23 : Code) (h23 : rgn 23 (Try.f7.body.getD .skip) = some C23) (C24 : Code) (h24 : rgn 24 (Try.f7.body.getD .skip) = some C24) (C25 : Code) (h25 : rgn 25 (Try.f7.body.getD .skip) = some C25) (u1 u2 u3 u4 u5 u6 u7 u8 u11 u12 u14 u15 u16 u17 u18 u19 u20 u21 u22 u23 u24 u25 u26 u27 u28 u29 u30 u31 u32 u33 u34 u35 u36 u37 u38 u39 u40 u41 u42 u43 u44 u45 u46 u47 u48 u49 u50 u51 u52 u53 u54 u55 u56 u57 u58 u59 u60 u61 u62 u63 u64 u65 u66 u67 u68 u69 u70 u71 u72 u73 u74 u75 u76 u77 u78 u79 u80 u81 u82 u83 u84 u85 u86 u87 u88 u89 u90 u91 u92 u93 u94 u95 u96 u97 u98 u99 u100 u101 u102 u103 u104 u105 u106 u107 u108 u109 u110 u111 u112 u113 u114 u115 u116 u117 u118 u119 u120 u121 u122 u123 u124 u125 u126 u127 u128 u129 u130 u131 u132 u133 u134 u135 u136 u137 u138 u139 u140 u141 u142 u143 u144 u145 u146 u147 u148 u149 u150 u151 u152 u153 u154 u155 u156 u157 u158 u159 u160 u161 u162 u163 u164 u165 u166 u167 u168 u169 u170 u171 u172 u173 u174 u175 u176 u177 u178 u179 u180 u181 u182 u183 u184 u185 u186 u187 u188 u189 u190 u191 u192 u193 u194 u195 u196 u197 u198 u199 u200 u201 u202 u203 u204 u205 u206 u207 u208 u209 u210 u211 u212 u213 u214 u215 u216 u217 u218 u219 u220 u221 u222 u223 u224 u225 u226 u227 u228 u229 u230 u231 u232 u233 u234 u235 u236 u237 u238 u239 u240 u241 u242 u243 u244 u245 u246 u247 u248 u249 u250 u251 u252 u253 u254 u255 u256 u257 u258 u259 u260 u261 u262 u263 u264 u265 u266 u267 u268 u269 u270 u271 u272 u273 u274 u275 u276 u277 u278 u279 u280 u281 u282 u283 u284 u285 u286 u287 u288 u289 u290 u291 u292 u293 u294 u295 u296 u297 u298 u299 u300 u301 u302 u303 u304 u305 u306 u307 u308 u309 u310 u311 u312 u313 u314 u315 u316 u317 u318 u319 u320 u321 u322 u323 u324 u325 u326 u327 u328 u329 u330 u331 u332 u333 u334 u335 u336 u337 u338 u339 u340 u341 u342 u343 u344 u345 u346 u347 u348 u349 u350 u351 u352 u353 u354 u355 u356 u357 u358 u359 u360 u361 u362 u363 u364 u365 u366 u367 u368 u369 u370 u371 u372 u373 u374 u375 u376 u377 u378 u379 u380 u381 u382 u383 u384 u385 u386 u387 u388 u389 u390 u391 u392 u393 u394 u395 u396 u397 u398 u399 u400 u401 u402 u403 u404 u405 u406 u407 u408 u409 u410 u411 u412 u413 u414 u415 u416 u417 u418 u419 u420 u421 u422 u423 u424 u425 u426 u427 u428 u429 u430 u431 u432 u433 u434 u435 u436 : Value) (al : List Ad) (ks : List Int) (K : List K3) (ps : List Pn) (B gt gm ga kcap ca : Nat) (ak aa : Option Addr) (tv : Value) (st k n up dr : Int) (vs : List V2) (ap : Option Addr) (cp : Nat) (w w4 : World)
    (hkv : RowG w (.slice ak ks.length kcap) 1 ks.length (ks.map (Value.int .i64))) (hkk : ∀ k ∈ ks, 1 ≤ k ∧ k ≤ 5) (c1 : ks.length ≤ 4) (hPI : PInv w w4 B gt gm tv tv (.slice aa al.length ca) ps al K) (hP : PP ks al ps K) (hal : al.length ≤ 50) (ba : BlkAt w4 ga [.int .i64 st, .int .i64 k, .int .i64 n, .slice ap vs.length cp, .int .i64 up, .int .i64 dr]) (ra : RowG w (.slice ap vs.length cp) 2 vs.length (rowV vs)) (hvl : vs.length = ks.length) (s1 : -1000 ≤ st) (s2 : st ≤ 9999) (hvs : ∀ a ∈ al, ∃ ao n cap, a.vv = .slice ao n cap)
    (hQ : ∀ (v155 v156 v157 v158 v159 v160 v161 v162 v163 v164 v165 v166 v167 v168 v169 v170 v171 v172 v173 v174 v175 v176 v177 v178 v179 v180 v181 v182 : Value) (gi : Nat) (ab : Option Addr) (cb : Nat) (F : List Ad) (b : Bool) (u : Value) (ps1 : List Pn) (was : Pn) (gn gw : Nat) (w6 : World) (w' : World), Below w4.heap.size w4 w6 ∧ AddR w w6 w' B gt gm tv (.slice aa al.length ca) u ks al K ⟨st, k, n, vs, .slice ap vs.length cp, up, dr⟩ F b ps1 was gn gw ∧ BlkAt w' gi [.int .i64 st, .int .i64 k, .int .i64 n] ∧ RowG w' (.slice ab F.length cb) 6 F.length (rowOf cellsAd F) ∧ BlkAt w' ga [.int .i64 st, .int .i64 k, .int .i64 n, .slice ap vs.length cp, .int .i64 up, .int .i64 dr] ∧ ofK al (st, k, n) = F → Code.wp Try.prog R Q { tmps := (.slice ak ks.length kcap :: u1 :: u2 :: u3 :: u4 :: u5 :: u6 :: u7 :: u8 :: .pointer (some ⟨gt, 0, none⟩) :: .slice aa al.length ca :: u11 :: u12 :: .pointer (some ⟨ga, 0, none⟩) :: u14 :: .pointer (some ⟨gi, 0, none⟩) :: .slice ab F.length cb :: .pointer (some ⟨gn, 0, none⟩) :: .pointer (some ⟨gw, 0, none⟩) :: .bool b :: u20 :: u21 :: u22 :: u23 :: u24 :: u25 :: u26 :: u27 :: u28 :: u29 :: u30 :: u31 :: u32 :: u33 :: u34 :: u35 :: u36 :: u37 :: u38 :: u39 :: u40 :: u41 :: u42 :: u43 :: u44 :: u45 :: u46 :: u47 :: u48 :: u49 :: u50 :: u51 :: u52 :: u53 :: u54 :: u55 :: u56 :: u57 :: u58 :: u59 :: u60 :: u61 :: u62 :: u63 :: u64 :: u65 :: u66 :: u67 :: u68 :: u69 :: u70 :: u71 :: u72 :: u73 :: u74 :: u75 :: u76 :: u77 :: u78 :: u79 :: u80 :: u81 :: u82 :: u83 :: u84 :: u85 :: u86 :: u87 :: u88 :: u89 :: u90 :: u91 :: u92 :: u93 :: u94 :: u95 :: u96 :: u97 :: u98 :: u99 :: u100 :: u101 :: u102 :: u103 :: u104 :: u105 :: u106 :: u107 :: u108 :: u109 :: u110 :: u111 :: u112 :: u113 :: u114 :: u115 :: u116 :: u117 :: u118 :: u119 :: u120 :: u121 :: u122 :: u123 :: u124 :: u125 :: u126 :: u127 :: u128 :: u129 :: u130 :: u131 :: u132 :: u133 :: u134 :: u135 :: u136 :: u137 :: u138 :: u139 :: u140 :: u141 :: u142 :: u143 :: u144 :: u145 :: u146 :: u147 :: u148 :: u149 :: u150 :: u151 :: u152 :: u153 :: u154 :: v155 :: v156 :: v157 :: v158 :: v159 :: v160 :: v161 :: v162 :: v163 :: v164 :: v165 :: v166 :: v167 :: v168 :: v169 :: v170 :: v171 :: v172 :: v173 :: v174 :: v175 :: v176 :: v177 :: v178 :: v179 :: v180 :: v181 :: v182 :: u183 :: u184 :: u185 :: u186 :: u187 :: u188 :: u189 :: u190 :: u191 :: u192 :: u193 :: u194 :: u195 :: u196 :: u197 :: u198 :: u199 :: u200 :: u201 :: u202 :: u203 :: u204 :: u205 :: u206 :: u207 :: u208 :: u209 :: u210 :: u211 :: u212 :: u213 :: u214 :: u215 :: u216 :: u217 :: u218 :: u219 :: u220 :: u221 :: u222 :: u223 :: u224 :: u225 :: u226 :: u227 :: u228 :: u229 :: u230 :: u231 :: u232 :: u233 :: u234 :: u235 :: u236 :: u237 :: u238 :: u239 :: u240 :: u241 :: u242 :: u243 :: u244 :: u245 :: u246 :: u247 :: u248 :: u249 :: u250 :: u251 :: u252 :: u253 :: u254 :: u255 :: u256 :: u257 :: u258 :: u259 :: u260 :: u261 :: u262 :: u263 :: u264 :: u265 :: u266 :: u267 :: u268 :: u269 :: u270 :: u271 :: u272 :: u273 :: u274 :: u275 :: u276 :: u277 :: u278 :: u279 :: u280 :: u281 :: u282 :: u283 :: u284 :: u285 :: u286 :: u287 :: u288 :: u289 :: u290 :: u291 :: u292 :: u293 :: u294 :: u295 :: u296 :: u297 :: u298 :: u299 :: u300 :: u301 :: u302 :: u303 :: u304 :: u305 :: u306 :: u307 :: u308 :: u309 :: u310 :: u311 :: u312 :: u313 :: u314 :: u315 :: u316 :: u317 :: u318 :: u319 :: u320 :: u321 :: u322 :: u323 :: u324 :: u325 :: u326 :: u327 :: u328 :: u329 :: u330 :: u331 :: u332 :: u333 :: u334 :: u335 :: u336 :: u337 :: u338 :: u339 :: u340 :: u341 :: u342 :: u343 :: u344 :: u345 :: u346 :: u347 :: u348 :: u349 :: u350 :: u351 :: u352 :: u353 :: u354 :: u355 :: u356 :: u357 :: u358 :: u359 :: u360 :: u361 :: u362 :: u363 :: u364 :: u365 :: u366 :: u367 :: u368 :: u369 :: u370 :: u371 :: u372 :: u373 :: u374 :: u375 :: u376 :: u377 :: u378 :: u379 :: u380 :: u381 :: u382 :: u383 :: u384 :: u385 :: u386 :: u387 :: u388 :: u389 :: u390 :: u391 :: u392 :: u393 :: u394 :: u395 :: u396 :: u397 :: u398 :: u399 :: u400 :: u401 :: u402 :: u403 :: u404 :: u405 :: u406 :: u407 :: u408 :: u409 :: u410 :: u411 :: u412 :: u413 :: u414 :: u415 :: u416 :: u417 :: u418 :: u419 :: u420 :: u421 :: u422 :: u423 :: u424 :: u425 :: u426 :: u427 :: u428 :: u429 :: u430 :: u431 :: u432 :: u433 :: u434 :: u435 :: u436 :: []).toArray, defers := [] } w') :
    Code.wp Try.prog (.seq C23 (.seq C24 (.seq C25 R))) Q { tmps := (.slice ak ks.length kcap :: u1 :: u2 :: u3 :: u4 :: u5 :: u6 :: u7 :: u8 :: .pointer (some ⟨gt, 0, none⟩) :: .slice aa al.length ca :: u11 :: u12 :: .pointer (some ⟨ga, 0, none⟩) :: u14 :: u15 :: u16 :: u17 :: u18 :: u19 :: u20 :: u21 :: u22 :: u23 :: u24 :: u25 :: u26 :: u27 :: u28 :: u29 :: u30 :: u31 :: u32 :: u33 :: u34 :: u35 :: u36 :: u37 :: u38 :: u39 :: u40 :: u41 :: u42 :: u43 :: u44 :: u45 :: u46 :: u47 :: u48 :: u49 :: u50 :: u51 :: u52 :: u53 :: u54 :: u55 :: u56 :: u57 :: u58 :: u59 :: u60 :: u61 :: u62 :: u63 :: u64 :: u65 :: u66 :: u67 :: u68 :: u69 :: u70 :: u71 :: u72 :: u73 :: u74 :: u75 :: u76 :: u77 :: u78 :: u79 :: u80 :: u81 :: u82 :: u83 :: u84 :: u85 :: u86 :: u87 :: u88 :: u89 :: u90 :: u91 :: u92 :: u93 :: u94 :: u95 :: u96 :: u97 :: u98 :: u99 :: u100 :: u101 :: u102 :: u103 :: u104 :: u105 :: u106 :: u107 :: u108 :: u109 :: u110 :: u111 :: u112 :: u113 :: u114 :: u115 :: u116 :: u117 :: u118 :: u119 :: u120 :: u121 :: u122 :: u123 :: u124 :: u125 :: u126 :: u127 :: u128 :: u129 :: u130 :: u131 :: u132 :: u133 :: u134 :: u135 :: u136 :: u137 :: u138 :: u139 :: u140 :: u141 :: u142 :: u143 :: u144 :: u145 :: u146 :: u147 :: u148 :: u149 :: u150 :: u151 :: u152 :: u153 :: u154 :: u155 :: u156 :: u157 :: u158 :: u159 :: u160 :: u161 :: u162 :: u163 :: u164 :: u165 :: u166 :: u167 :: u168 :: u169 :: u170 :: u171 :: u172 :: u173 :: u174 :: u175 :: u176 :: u177 :: u178 :: u179 :: u180 :: u181 :: u182 :: u183 :: u184 :: u185 :: u186 :: u187 :: u188 :: u189 :: u190 :: u191 :: u192 :: u193 :: u194 :: u195 :: u196 :: u197 :: u198 :: u199 :: u200 :: u201 :: u202 :: u203 :: u204 :: u205 :: u206 :: u207 :: u208 :: u209 :: u210 :: u211 :: u212 :: u213 :: u214 :: u215 :: u216 :: u217 :: u218 :: u219 :: u220 :: u221 :: u222 :: u223 :: u224 :: u225 :: u226 :: u227 :: u228 :: u229 :: u230 :: u231 :: u232 :: u233 :: u234 :: u235 :: u236 :: u237 :: u238 :: u239 :: u240 :: u241 :: u242 :: u243 :: u244 :: u245 :: u246 :: u247 :: u248 :: u249 :: u250 :: u251 :: u252 :: u253 :: u254 :: u255 :: u256 :: u257 :: u258 :: u259 :: u260 :: u261 :: u262 :: u263 :: u264 :: u265 :: u266 :: u267 :: u268 :: u269 :: u270 :: u271 :: u272 :: u273 :: u274 :: u275 :: u276 :: u277 :: u278 :: u279 :: u280 :: u281 :: u282 :: u283 :: u284 :: u285 :: u286 :: u287 :: u288 :: u289 :: u290 :: u291 :: u292 :: u293 :: u294 :: u295 :: u296 :: u297 :: u298 :: u299 :: u300 :: u301 :: u302 :: u303 :: u304 :: u305 :: u306 :: u307 :: u308 :: u309 :: u310 :: u311 :: u312 :: u313 :: u314 :: u315 :: u316 :: u317 :: u318 :: u319 :: u320 :: u321 :: u322 :: u323 :: u324 :: u325 :: u326 :: u327 :: u328 :: u329 :: u330 :: u331 :: u332 :: u333 :: u334 :: u335 :: u336 :: u337 :: u338 :: u339 :: u340 :: u341 :: u342 :: u343 :: u344 :: u345 :: u346 :: u347 :: u348 :: u349 :: u350 :: u351 :: u352 :: u353 :: u354 :: u355 :: u356 :: u357 :: u358 :: u359 :: u360 :: u361 :: u362 :: u363 :: u364 :: u365 :: u366 :: u367 :: u368 :: u369 :: u370 :: u371 :: u372 :: u373 :: u374 :: u375 :: u376 :: u377 :: u378 :: u379 :: u380 :: u381 :: u382 :: u383 :: u384 :: u385 :: u386 :: u387 :: u388 :: u389 :: u390 :: u391 :: u392 :: u393 :: u394 :: u395 :: u396 :: u397 :: u398 :: u399 :: u400 :: u401 :: u402 :: u403 :: u404 :: u405 :: u406 :: u407 :: u408 :: u409 :: u410 :: u411 :: u412 :: u413 :: u414 :: u415 :: u416 :: u417 :: u418 :: u419 :: u420 :: u421 :: u422 :: u423 :: u424 :: u425 :: u426 :: u427 :: u428 :: u429 :: u430 :: u431 :: u432 :: u433 :: u434 :: u435 :: u436 :: []).toArray, defers := [] } w4 := by
  have HQ := hidE hQ
  have PI4 := hidE hPI
  have PQ := hidE hP
  have A4 := hidE ba
  have HKV := hidE hkv
  have HKK := hidE hkk
  have RA := hidE ra
  have VL := hidE hvl
  obtain ⟨at_, ct_, htv⟩ := rowS_shape hPI.tr.row
  have hga := ba.lt
  have x0 : w4.cell? ⟨ga, 0, none⟩ = some (.int .i64 st) := ba.c 0 (by simp)
  have x1 : w4.cell? ⟨ga, 1, none⟩ = some (.int .i64 k) := ba.c 1 (by simp)
  have x2 : w4.cell? ⟨ga, 2, none⟩ = some (.int .i64 n) := ba.c 2 (by simp)
  have PI5 := hidE (pinv_below PI4.out (below_alloc w4 (.cells #[.int .i64 st, .int .i64 k, .int .i64 n] 90)))
  have A5 := hidE (blk_below A4.out (below_alloc w4 (.cells #[.int .i64 st, .int .i64 k, .int .i64 n] 90)) A4.out.lt)
  have ID5 := hidE (blk_alloc w4 [.int .i64 st, .int .i64 k, .int .i64 n] 90 (by simp))
  have B5 := hidE (below_alloc w4 (.cells #[.int .i64 st, .int .i64 k, .int .i64 n] 90))
  have OF := hidE (of_any al _ st k n _ (by omega) (rowG_of_owns PI5.out.ar) hvs)
  clear hQ hPI hP ba hkv hkk ra hvl hvs
  unfold Try.f7 at h23
  simp [rgn] at h23
  subst h23
  unfold Try.f7 at h24
  simp [rgn] at h24
  subst h24
  unfold Try.f7 at h25
  simp [rgn] at h25
  subst h25
  go_wp2_with fail
  refine OF.out.mono ?_
  rintro e w6 ⟨bv, rfl, hbv, hb⟩
  obtain ⟨ab, cb, rfl⟩ := rowG_shape hbv
  have PI6 := hidE (pinv_below PI5.out hb)
  have A6 := hidE (blk_below A5.out hb A5.out.lt)
  have ID6 := hidE (blk_below ID5.out hb ID5.out.lt)
  have B6 := hidE (B5.out.trans (hb.mono B5.out.size))
  have BV := hidE hbv
  obtain ⟨gi, hgi2⟩ : ∃ gi, w4.heap.size = gi := ⟨_, rfl⟩
  have hFE : al.filter (isOf st k n) = ofK al (st, k, n) := rfl
  rw [hFE] at BV ⊢
  generalize hF : ofK al (st, k, n) = F at *
  have HF := hidE hF
  rw [hgi2] at ID6 ⊢
  clear hb hbv OF PI5 A5 ID5 B5 x0 x1 x2 hF hFE
  have x0 : w6.cell? ⟨ga, 0, none⟩ = some (.int .i64 st) := A6.out.c 0 (by simp)
  have x1 : w6.cell? ⟨ga, 1, none⟩ = some (.int .i64 k) := A6.out.c 1 (by simp)
  have x2 : w6.cell? ⟨ga, 2, none⟩ = some (.int .i64 n) := A6.out.c 2 (by simp)
  have x3 : w6.cell? ⟨ga, 3, none⟩ = some (.slice ap vs.length cp) := A6.out.c 3 (by simp)
  have gtc : w6.cell? ⟨gt, 0, none⟩ = some tv := PI6.out.tb.c 0 (by simp)
  have hps := pp_small PQ.out
  have rv := rowG_below RA.out PI6.out.bl
  have hks4 := c1
  by_cases hex : (st, k, n) ∈ ps.map keyP
  · obtain ⟨p, hp, hkey⟩ := List.mem_map.1 hex
    obtain ⟨j, hj, rfl⟩ := List.mem_iff_getElem.1 hp
    have hac := PQ.out.acs ps[j] hp
    have hFl : (ofK al (keyP ps[j])).length ≤ 1000 := by
      have := List.length_filter_le (isOf (keyP ps[j]).1 (keyP ps[j]).2.1 (keyP ps[j]).2.2) al
      unfold ofK
      omega
    have ADD := hidE (add_old ps tv st k n (.slice ak ks.length kcap) vs (.slice ap vs.length cp) w6 PI6.out.tr (by omega) PQ.out.rise j hj (key_split hkey) (by rw [hac, accs_len]; omega) (by rw [hac]; exact accs_kinds ks _ HKK.out hFl) rv (by rw [hac, accs_len, VL.out]))
    unfold aggP at ADD
    simp only at ADD
    have YES : Hid (0 < F.length ∧ ps[j].st = st ∧ ps[j].k = k ∧ ps[j].n = n ∧ ps[j].ac = accsOf ks F ∧ ps[j].told = decide ((st, k, n) ∈ K)) := by
      have h1 := ofK_pos PQ.out hp
      have h2 := PQ.out.told ps[j] hp
      rw [hkey] at h1 h2 hac
      rw [HF.out] at h1 hac
      exact ⟨h1, (key_split hkey).1, (key_split hkey).2.1, (key_split hkey).2.2, hac, h2⟩
    have POL := hidE (fun av => pp_old PQ.out ⟨st, k, n, vs, .slice ap vs.length cp, up, dr⟩ ⟨VL.out, by simp only; omega, by simp only; omega⟩ j hj hkey av)
    simp only at POL
    generalize hpj : ps[j] = p at *
    clear hac hFl hks4 rv hex hpj hp hkey
    subst htv
    go_wp2_with fail
    refine ADD.out.mono ?_
    rintro e w7 ⟨u, av, av2, rfl, ht, hacc, ⟨hf1, hf2⟩, hb⟩
    have AR := hidE (addR_mk (F := F) (b := true) (was := ⟨st, k, n, p.told, p.ac, av2⟩) PI6.out hb ht hf1 (fun q hq => by
      rcases List.mem_or_eq_of_mem_set hq with h | rfl
      · exact .inr ⟨q, h, rfl⟩
      · exact .inl hf2) (POL.out av) hacc (fun _ => ⟨YES.out.1, rfl, rfl, rfl, YES.out.2.2.2.2.1, YES.out.2.2.2.2.2⟩) (fun h => by cases h))
    obtain ⟨au, cu, rfl⟩ := slice_len ht.row (List.length_set ..)
    obtain ⟨a2, c2', hav2⟩ := rowS_shape hacc
    simp only at hav2
    subst hav2
    clear ht hacc hf1 hf2 hb ADD
    generalize p.told = ptold at *
    generalize p.ac = pac at *
    clear x0 x1 x2 x3 gtc
    go_wp2_with fail
    exact HQ.out _ _ _ _ _ _ _ _ _ _ _ _ _ _ _ _ _ _ _ _ _ _ _ _ _ _ _ _ gi ab cb F true _ _ _ _ _ w6 _ ⟨B6.out, AR.out, blk_below ID6.out AR.out.bl ID6.out.lt, rowG_below BV.out AR.out.bl, blk_below A6.out AR.out.bl A6.out.lt, rfl⟩
  · have ADD := hidE (add_new ps tv st k n ks (.slice ak ks.length kcap) vs (.slice ap vs.length cp) w6 PI6.out.tr (by omega) PQ.out.rise (by omega) (rowG_below HKV.out PI6.out.bl) HKK.out rv VL.out (fun p hp h => hex (List.mem_map.2 ⟨p, hp, by unfold keyP; rw [h.1, h.2.1, h.2.2]⟩)))
    have NO : Hid (F.length = 0) := by
      have h1 := ofK_none PQ.out hex
      rw [HF.out] at h1
      exact h1
    have PNW := hidE (fun i av hR => pp_new PQ.out ⟨st, k, n, vs, .slice ap vs.length cp, up, dr⟩ ⟨VL.out, by simp only; omega, by simp only; omega⟩ hex i av hR)
    simp only at PNW
    clear hks4 rv
    subst htv
    go_wp2_with fail
    refine ADD.out.mono ?_
    rintro e w7 ⟨i, u, av, hi9, rfl, ht, hR, ⟨hf1, hf2⟩, hb⟩
    have AR := hidE (addR_mk (F := F) (b := false) (was := ⟨0, 0, 0, false, [], .slice none 0 0⟩) PI6.out hb ht hf1 (fun q hq => by
      rcases List.mem_append.1 hq with h | h
      · exact .inr ⟨q, List.mem_of_mem_take h, rfl⟩
      · rcases List.mem_cons.1 h with rfl | h
        · exact .inl hf2
        · exact .inr ⟨q, List.mem_of_mem_drop h, rfl⟩) (PNW.out i av hR) (accR_nil w7) (fun h => by cases h) (fun _ => ⟨NO.out, rfl⟩))
    obtain ⟨au, cu, hu⟩ := rowS_shape ht.row
    generalize (ps.take i ++ ⟨st, k, n, false, addL (ks.map newA) vs, av⟩ :: ps.drop i).length = nl at hu
    subst hu
    clear ht hR hf1 hf2 hb ADD hi9 x0 x1 x2 x3 gtc
    go_wp2_with fail
    exact HQ.out _ _ _ _ _ _ _ _ _ _ _ _ _ _ _ _ _ _ _ _ _ _ _ _ _ _ _ _ gi ab cb F false _ _ _ _ _ w6 _ ⟨B6.out, AR.out, blk_below ID6.out AR.out.bl ID6.out.lt, rowG_below BV.out AR.out.bl, blk_below A6.out AR.out.bl A6.out.lt, rfl⟩
end Go.Proofs.Ytoihjhhambgpfab

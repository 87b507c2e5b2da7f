/- The law PanesSays' loop over the panes of the table, over this seat's translation, as a theorem of its own. Conditions: as named. -/
import Derived.Test.YtoihjhhambgpfabLawR64
import Derived.Deep.DeepCutAuto
namespace Go.Proofs.Ytoihjhhambgpfab
open Go.ChangeShapes Go.WideShapes Go.ChangeAt Go.RowKit
set_option linter.unusedVariables false
set_option linter.unusedSimpArgs false

set_option maxRecDepth 100000 in
set_option maxHeartbeats 8000000 in
theorem loop8 (Q : Exit → Act → World → Prop) (C : Code) (hC : stm 60 (Try.f7.body.getD .skip) = some C) (u2 u3 u4 u5 u6 u7 u8 u12 u14 u15 u16 u17 u18 u19 u20 u21 u22 u23 u24 u25 u26 u27 u28 u30 u31 u32 u33 u34 u35 u36 u37 u38 u39 u40 u41 u42 u43 u44 u45 u46 u47 u48 u49 u50 u51 u52 u53 u54 u55 u56 u57 u58 u59 u60 u61 u62 u63 u64 u65 u66 u67 u68 u69 u70 u71 u72 u73 u74 u75 u76 u77 u78 u79 u80 u81 u82 u83 u84 u85 u86 u87 u88 u89 u90 u91 u92 u93 u94 u95 u96 u97 u98 u99 u100 u101 u102 u103 u104 u105 u106 u107 u108 u109 u110 u111 u112 u113 u114 u115 u116 u117 u118 u119 u120 u121 u122 u123 u124 u125 u126 u127 u128 u129 u130 u131 u132 u133 u134 u135 u136 u137 u138 u139 u140 u141 u142 u143 u144 u145 u146 u147 u148 u149 u150 u151 u152 u153 u154 u155 u156 u157 u158 u159 u160 u161 u162 u163 u164 u165 u166 u167 u168 u169 u170 u171 u172 u173 u174 u175 u176 u177 u178 u179 u180 u181 u182 u183 u184 u185 u186 u187 u188 u189 u190 u191 u192 u193 u194 u195 u196 u197 u198 u199 u200 u201 u202 u203 u204 u205 u206 u207 u208 u209 u210 u211 u212 u213 u214 u215 u216 u217 u218 u219 u220 u221 u222 u223 u224 u225 u226 u227 u228 u229 u230 u231 u232 u233 u234 u235 u236 u237 u238 u239 u240 u241 u242 u243 u244 u245 u246 u247 u248 u249 u250 u251 u252 u253 u254 u255 u256 u257 u258 u259 u260 u261 u262 u263 u264 u265 u266 u267 u268 u269 u270 u271 u272 u273 u274 u275 u276 u277 u278 u279 u280 u281 u282 u283 u284 u285 u286 u287 u288 u289 u290 u291 u292 u293 u294 u295 u296 u297 u298 u299 u300 u301 u302 u303 u304 u305 u306 u307 u308 u309 u310 u311 u312 u313 u314 u315 u316 u317 u318 u319 u320 u321 u322 u323 u324 u325 u326 u327 u328 u329 u330 u331 u332 u333 u334 u335 u336 u337 u338 u339 u340 u341 u342 u343 u344 u345 u346 u347 u348 u349 u350 u351 u352 u353 u354 u355 u356 u357 u358 u359 u360 u361 u362 u363 u364 u365 u366 u367 u368 u369 u370 u371 u372 u373 u374 u375 u376 u377 u378 u379 u380 u381 u382 u383 u384 u385 u386 u387 u388 u389 u390 u391 u392 u393 u394 u395 u396 u397 u398 u399 u400 u401 u402 u403 u404 u405 u406 u407 u408 u409 u410 u411 u412 u413 u414 u415 u416 u417 u418 u419 u420 u421 u422 u423 u424 u425 u426 u427 u428 u429 u430 u431 u432 u433 u434 u435 u436 : Value) (al : List Ad) (ks : List Int) (K : List K3) (ps : List Pn) (size up : Int) (B gt ga gm kcap ca : Nat) (ak aa : Option Addr) (tv : Value) (w w9 : World)
    (hkv : RowG w (.slice ak ks.length kcap) 1 ks.length (ks.map (Value.int .i64))) (hkk : ∀ k ∈ ks, 1 ≤ k ∧ k ≤ 5) (c1 : ks.length ≤ 4) (hav : ∀ a ∈ al, RowG w a.vv 2 a.vs.length (rowV a.vs) ∧ a.vs.length = ks.length)
    (hPI : PInv w w9 B gt gm tv tv (.slice aa al.length ca) ps al K) (hP : PP ks al ps K) (hal : al.length ≤ 60) (lga : ga < w9.heap.size) (g4 : w9.cell? ⟨ga, 4, none⟩ = some (.int .i64 up)) (hdue : ∀ p ∈ ps, p.st + size ≤ up → p.told = true) (m3 : 1 ≤ size) (m4 : size ≤ 1000)
    (hpan : ∀ c a a' w, Q (.panic c) a w → Q (.panic c) a' w)
    (hQ : ∀ (v6 v29 v30 v31 v367 v368 v369 v370 v371 v372 v373 v374 v375 v376 v377 v378 v379 v380 v381 v382 v383 v384 v385 v386 v387 v388 v389 v390 v391 v392 v393 v394 v395 v396 v397 v398 v399 v400 v401 v402 v403 v404 v405 v406 v407 v408 v409 v410 v411 v412 v413 v414 v415 v416 v417 v418 v419 v420 v421 v422 v423 v424 v425 v426 v427 v428 v429 v430 v431 v432 v433 v434 v435 v436 : Value) w', Below w9.heap.size w9 w' → Q .normal { tmps := (.slice ak ks.length kcap :: .int .i64 size :: u2 :: u3 :: u4 :: u5 :: v6 :: u7 :: u8 :: .pointer (some ⟨gt, 0, none⟩) :: .slice aa al.length ca :: .map (some gm) :: u12 :: .pointer (some ⟨ga, 0, none⟩) :: u14 :: u15 :: u16 :: u17 :: u18 :: u19 :: u20 :: u21 :: u22 :: u23 :: u24 :: u25 :: u26 :: u27 :: u28 :: v29 :: v30 :: v31 :: u32 :: u33 :: u34 :: u35 :: u36 :: u37 :: u38 :: u39 :: u40 :: u41 :: u42 :: u43 :: u44 :: u45 :: u46 :: u47 :: u48 :: u49 :: u50 :: u51 :: u52 :: u53 :: u54 :: u55 :: u56 :: u57 :: u58 :: u59 :: u60 :: u61 :: u62 :: u63 :: u64 :: u65 :: u66 :: u67 :: u68 :: u69 :: u70 :: u71 :: u72 :: u73 :: u74 :: u75 :: u76 :: u77 :: u78 :: u79 :: u80 :: u81 :: u82 :: u83 :: u84 :: u85 :: u86 :: u87 :: u88 :: u89 :: u90 :: u91 :: u92 :: u93 :: u94 :: u95 :: u96 :: u97 :: u98 :: u99 :: u100 :: u101 :: u102 :: u103 :: u104 :: u105 :: u106 :: u107 :: u108 :: u109 :: u110 :: u111 :: u112 :: u113 :: u114 :: u115 :: u116 :: u117 :: u118 :: u119 :: u120 :: u121 :: u122 :: u123 :: u124 :: u125 :: u126 :: u127 :: u128 :: u129 :: u130 :: u131 :: u132 :: u133 :: u134 :: u135 :: u136 :: u137 :: u138 :: u139 :: u140 :: u141 :: u142 :: u143 :: u144 :: u145 :: u146 :: u147 :: u148 :: u149 :: u150 :: u151 :: u152 :: u153 :: u154 :: u155 :: u156 :: u157 :: u158 :: u159 :: u160 :: u161 :: u162 :: u163 :: u164 :: u165 :: u166 :: u167 :: u168 :: u169 :: u170 :: u171 :: u172 :: u173 :: u174 :: u175 :: u176 :: u177 :: u178 :: u179 :: u180 :: u181 :: u182 :: u183 :: u184 :: u185 :: u186 :: u187 :: u188 :: u189 :: u190 :: u191 :: u192 :: u193 :: u194 :: u195 :: u196 :: u197 :: u198 :: u199 :: u200 :: u201 :: u202 :: u203 :: u204 :: u205 :: u206 :: u207 :: u208 :: u209 :: u210 :: u211 :: u212 :: u213 :: u214 :: u215 :: u216 :: u217 :: u218 :: u219 :: u220 :: u221 :: u222 :: u223 :: u224 :: u225 :: u226 :: u227 :: u228 :: u229 :: u230 :: u231 :: u232 :: u233 :: u234 :: u235 :: u236 :: u237 :: u238 :: u239 :: u240 :: u241 :: u242 :: u243 :: u244 :: u245 :: u246 :: u247 :: u248 :: u249 :: u250 :: u251 :: u252 :: u253 :: u254 :: u255 :: u256 :: u257 :: u258 :: u259 :: u260 :: u261 :: u262 :: u263 :: u264 :: u265 :: u266 :: u267 :: u268 :: u269 :: u270 :: u271 :: u272 :: u273 :: u274 :: u275 :: u276 :: u277 :: u278 :: u279 :: u280 :: u281 :: u282 :: u283 :: u284 :: u285 :: u286 :: u287 :: u288 :: u289 :: u290 :: u291 :: u292 :: u293 :: u294 :: u295 :: u296 :: u297 :: u298 :: u299 :: u300 :: u301 :: u302 :: u303 :: u304 :: u305 :: u306 :: u307 :: u308 :: u309 :: u310 :: u311 :: u312 :: u313 :: u314 :: u315 :: u316 :: u317 :: u318 :: u319 :: u320 :: u321 :: u322 :: u323 :: u324 :: u325 :: u326 :: u327 :: u328 :: u329 :: u330 :: u331 :: u332 :: u333 :: u334 :: u335 :: u336 :: u337 :: u338 :: u339 :: u340 :: u341 :: u342 :: u343 :: u344 :: u345 :: u346 :: u347 :: u348 :: u349 :: u350 :: u351 :: u352 :: u353 :: u354 :: u355 :: u356 :: u357 :: u358 :: u359 :: u360 :: u361 :: u362 :: u363 :: u364 :: u365 :: u366 :: v367 :: v368 :: v369 :: v370 :: v371 :: v372 :: v373 :: v374 :: v375 :: v376 :: v377 :: v378 :: v379 :: v380 :: v381 :: v382 :: v383 :: v384 :: v385 :: v386 :: v387 :: v388 :: v389 :: v390 :: v391 :: v392 :: v393 :: v394 :: v395 :: v396 :: v397 :: v398 :: v399 :: v400 :: v401 :: v402 :: v403 :: v404 :: v405 :: v406 :: v407 :: v408 :: v409 :: v410 :: v411 :: v412 :: v413 :: v414 :: v415 :: v416 :: v417 :: v418 :: v419 :: v420 :: v421 :: v422 :: v423 :: v424 :: v425 :: v426 :: v427 :: v428 :: v429 :: v430 :: v431 :: v432 :: v433 :: v434 :: v435 :: v436 :: []).toArray, defers := [] } w') :
    Code.wp Try.prog C Q { tmps := (.slice ak ks.length kcap :: .int .i64 size :: u2 :: u3 :: u4 :: u5 :: u6 :: u7 :: u8 :: .pointer (some ⟨gt, 0, none⟩) :: .slice aa al.length ca :: .map (some gm) :: u12 :: .pointer (some ⟨ga, 0, none⟩) :: u14 :: u15 :: u16 :: u17 :: u18 :: u19 :: u20 :: u21 :: u22 :: u23 :: u24 :: u25 :: u26 :: u27 :: u28 :: .int .i64 0 :: u30 :: u31 :: u32 :: u33 :: u34 :: u35 :: u36 :: u37 :: u38 :: u39 :: u40 :: u41 :: u42 :: u43 :: u44 :: u45 :: u46 :: u47 :: u48 :: u49 :: u50 :: u51 :: u52 :: u53 :: u54 :: u55 :: u56 :: u57 :: u58 :: u59 :: u60 :: u61 :: u62 :: u63 :: u64 :: u65 :: u66 :: u67 :: u68 :: u69 :: u70 :: u71 :: u72 :: u73 :: u74 :: u75 :: u76 :: u77 :: u78 :: u79 :: u80 :: u81 :: u82 :: u83 :: u84 :: u85 :: u86 :: u87 :: u88 :: u89 :: u90 :: u91 :: u92 :: u93 :: u94 :: u95 :: u96 :: u97 :: u98 :: u99 :: u100 :: u101 :: u102 :: u103 :: u104 :: u105 :: u106 :: u107 :: u108 :: u109 :: u110 :: u111 :: u112 :: u113 :: u114 :: u115 :: u116 :: u117 :: u118 :: u119 :: u120 :: u121 :: u122 :: u123 :: u124 :: u125 :: u126 :: u127 :: u128 :: u129 :: u130 :: u131 :: u132 :: u133 :: u134 :: u135 :: u136 :: u137 :: u138 :: u139 :: u140 :: u141 :: u142 :: u143 :: u144 :: u145 :: u146 :: u147 :: u148 :: u149 :: u150 :: u151 :: u152 :: u153 :: u154 :: u155 :: u156 :: u157 :: u158 :: u159 :: u160 :: u161 :: u162 :: u163 :: u164 :: u165 :: u166 :: u167 :: u168 :: u169 :: u170 :: u171 :: u172 :: u173 :: u174 :: u175 :: u176 :: u177 :: u178 :: u179 :: u180 :: u181 :: u182 :: u183 :: u184 :: u185 :: u186 :: u187 :: u188 :: u189 :: u190 :: u191 :: u192 :: u193 :: u194 :: u195 :: u196 :: u197 :: u198 :: u199 :: u200 :: u201 :: u202 :: u203 :: u204 :: u205 :: u206 :: u207 :: u208 :: u209 :: u210 :: u211 :: u212 :: u213 :: u214 :: u215 :: u216 :: u217 :: u218 :: u219 :: u220 :: u221 :: u222 :: u223 :: u224 :: u225 :: u226 :: u227 :: u228 :: u229 :: u230 :: u231 :: u232 :: u233 :: u234 :: u235 :: u236 :: u237 :: u238 :: u239 :: u240 :: u241 :: u242 :: u243 :: u244 :: u245 :: u246 :: u247 :: u248 :: u249 :: u250 :: u251 :: u252 :: u253 :: u254 :: u255 :: u256 :: u257 :: u258 :: u259 :: u260 :: u261 :: u262 :: u263 :: u264 :: u265 :: u266 :: u267 :: u268 :: u269 :: u270 :: u271 :: u272 :: u273 :: u274 :: u275 :: u276 :: u277 :: u278 :: u279 :: u280 :: u281 :: u282 :: u283 :: u284 :: u285 :: u286 :: u287 :: u288 :: u289 :: u290 :: u291 :: u292 :: u293 :: u294 :: u295 :: u296 :: u297 :: u298 :: u299 :: u300 :: u301 :: u302 :: u303 :: u304 :: u305 :: u306 :: u307 :: u308 :: u309 :: u310 :: u311 :: u312 :: u313 :: u314 :: u315 :: u316 :: u317 :: u318 :: u319 :: u320 :: u321 :: u322 :: u323 :: u324 :: u325 :: u326 :: u327 :: u328 :: u329 :: u330 :: u331 :: u332 :: u333 :: u334 :: u335 :: u336 :: u337 :: u338 :: u339 :: u340 :: u341 :: u342 :: u343 :: u344 :: u345 :: u346 :: u347 :: u348 :: u349 :: u350 :: u351 :: u352 :: u353 :: u354 :: u355 :: u356 :: u357 :: u358 :: u359 :: u360 :: u361 :: u362 :: u363 :: u364 :: u365 :: u366 :: u367 :: u368 :: u369 :: u370 :: u371 :: u372 :: u373 :: u374 :: u375 :: u376 :: u377 :: u378 :: u379 :: u380 :: u381 :: u382 :: u383 :: u384 :: u385 :: u386 :: u387 :: u388 :: u389 :: u390 :: u391 :: u392 :: u393 :: u394 :: u395 :: u396 :: u397 :: u398 :: u399 :: u400 :: u401 :: u402 :: u403 :: u404 :: u405 :: u406 :: u407 :: u408 :: u409 :: u410 :: u411 :: u412 :: u413 :: u414 :: u415 :: u416 :: u417 :: u418 :: u419 :: u420 :: u421 :: u422 :: u423 :: u424 :: u425 :: u426 :: u427 :: u428 :: u429 :: u430 :: u431 :: u432 :: u433 :: u434 :: u435 :: u436 :: []).toArray, defers := [] } w9 := by
  obtain ⟨at_, ct, htv⟩ := rowS_shape hPI.tr.row
  subst htv
  have hpl : ps.length ≤ 60 := by have := pp_small hP; omega
  have HQ := hidE hQ
  have HPN := hidE hpan
  have HKV := hidE hkv
  have HAV := hidE hav
  have HPI := hidE hPI
  have HP := hidE hP
  have HG4 := hidE g4
  have HD := hidE hdue
  have HRI : Hid (∀ q (hq : q < ps.length) r (hr : r < ps.length), r < q → lexlt ps[r].st ps[r].k ps[r].n ps[q].st ps[q].k ps[q].n) := fun q hq r hr h => (List.pairwise_iff_getElem.1 hP.rise) r q hr hq h
  clear hQ hpan hkv hav hPI hP g4 hdue
  unfold Try.f7 at hC
  simp [stm, lead] at hC
  subst hC
  go_wp2_with fail
  go_loopw [29] (fun i wr => ∃ q : Nat, q ≤ ps.length ∧ i = .int .i64 q ∧ Hid (Below w9.heap.size w9 wr)) (fun i _ => ps.length - (intOf i).toNat)
  case atStart => exact ⟨0, Nat.zero_le _, rfl, Below.refl _ _⟩
  case round =>
    obtain ⟨q, hq, rfl, HB⟩ := hrel
    have PIr := hidE (pinv_below HPI.out HB.out)
    have gtc : wr.cell? ⟨gt, 0, none⟩ = some (.slice at_ ps.length ct) := PIr.out.tb.c 0 (by simp)
    by_cases hql : q < ps.length
    · obtain ⟨gl, offl, el, hcl, l1, l2, l3⟩ := rowOf_val cellsPn_len (rowG_of_S PIr.out.tr.row) q hql
      subst el
      have HROW : Hid (∀ i (hi : i < ps.length) j, j < 5 → wr.cell? ⟨gl, offl + (i * 5 + j), none⟩ = (cellsPn ps[i])[j]?) := fun i hi j hj => by
        obtain ⟨gl2, offl2, el2, hcl2, _⟩ := rowOf_val cellsPn_len (rowG_of_S PIr.out.tr.row) i hi
        cases el2
        exact hcl2 j hj
      have HM := hidE (List.getElem_mem hql)
      have F1 := hidE (HP.out.acs ps[q] HM.out)
      have F2 := hidE (HP.out.told ps[q] HM.out)
      have F3 := hidE (ofK_pos HP.out HM.out)
      have F4 := hidE (HD.out ps[q] HM.out)
      have F5 := hidE (HRI.out q hql)
      have F6 := hidE (pp_st HP.out ps[q] HM.out)
      have F7 := hidE (PIr.out.tr.acc ps[q] HM.out)
      have HSH := hidE (tbl_slices PIr.out.tr)
      obtain ⟨ap, np, cp, hav1⟩ := HSH.out ps[q] HM.out
      have HCL := hidE hcl
      clear HM hcl
      generalize ps[q] = p at *
      obtain ⟨x1, x2, x3, x4, x5, x6⟩ := p
      simp only at hav1
      subst hav1
      have hex : ∃ F : List Ad, ofK al (x1, x2, x3) = F := ⟨_, rfl⟩
      obtain ⟨F, hF⟩ := hex
      have F1 : Hid (x5 = accsOf ks F) := by rw [← hF]; exact F1.out
      have F2 : Hid (x4 = decide ((x1, x2, x3) ∈ K)) := F2.out
      have F3 : Hid (0 < F.length) := by rw [← hF]; exact F3.out
      have F4 : Hid (x1 + size ≤ up → x4 = true) := F4.out
      have F5 : Hid (∀ r (hr : r < ps.length), r < q → lexlt ps[r].st ps[r].k ps[r].n x1 x2 x3) := F5.out
      have F6 : Hid (-100000 ≤ x1 ∧ x1 ≤ 100000) := F6.out
      have HF := hidE hF
      clear hF
      have y0 : wr.cell? ⟨gl, offl + q * 5, none⟩ = some (.int .i64 x1) := HCL.out 0 (by omega)
      have y1 : wr.cell? ⟨gl, offl + q * 5 + 1, none⟩ = some (.int .i64 x2) := HCL.out 1 (by omega)
      have y2 : wr.cell? ⟨gl, offl + q * 5 + 2, none⟩ = some (.int .i64 x3) := HCL.out 2 (by omega)
      have y3 : wr.cell? ⟨gl, offl + q * 5 + 3, none⟩ = some (.slice ap np cp) := HCL.out 3 (by omega)
      have y4 : wr.cell? ⟨gl, offl + q * 5 + 4, none⟩ = some (.bool x4) := HCL.out 4 (by omega)
      unfold maxLen at l2
      obtain ⟨w13, hw13⟩ : ∃ w13, w13 = wr := ⟨_, rfl⟩
      subst hw13
      clear HCL
      go_upto_region 63 with fail
      have BA := hidE (below_alloc w13 (.cells #[.int .i64 x1, .int .i64 x2, .int .i64 x3, .slice ap np cp, .bool x4] 94))
      have GP := hidE (blk_alloc w13 [.int .i64 x1, .int .i64 x2, .int .i64 x3, .slice ap np cp, .bool x4] 94 (by simp))
      obtain ⟨gp, hgp⟩ : ∃ gp, w13.heap.size = gp := ⟨_, rfl⟩
      rw [hgp] at GP ⊢
      generalize w13.alloc (.cells #[.int .i64 x1, .int .i64 x2, .int .i64 x3, .slice ap np cp, .bool x4] 94) = wa at *
      have z0 : wa.cell? ⟨gp, 0, none⟩ = some (.int .i64 x1) := GP.out.c 0 (by simp)
      have z1 : wa.cell? ⟨gp, 1, none⟩ = some (.int .i64 x2) := GP.out.c 1 (by simp)
      have z2 : wa.cell? ⟨gp, 2, none⟩ = some (.int .i64 x3) := GP.out.c 2 (by simp)
      have BI := hidE (below_alloc wa (.cells #[.int .i64 x1, .int .i64 x2, .int .i64 x3] 90))
      have ID := hidE (blk_alloc wa [.int .i64 x1, .int .i64 x2, .int .i64 x3] 90 (by simp))
      clear y0 y1 y2 y3 y4 hgp
      go_wp2_with fail
      obtain ⟨gi, hgi⟩ : ∃ gi, wa.heap.size = gi := ⟨_, rfl⟩
      have GP2 := hidE (blk_below GP.out BI.out GP.out.lt)
      have BB := hidE (BA.out.trans (BI.out.mono BA.out.size))
      have BB9 := hidE (HB.out.trans (BB.out.mono HB.out.size))
      have PI2 := hidE (pinv_below PIr.out BB.out)
      rw [hgi] at ID ⊢
      generalize wa.alloc (.cells #[.int .i64 x1, .int .i64 x2, .int .i64 x3] 90) = wb at *
      have ga4 := (BB9.out.cell (p := ⟨ga, 4, none⟩) lga).trans HG4.out
      clear hgi z0 z1 z2 gtc
      refine r64 _ _ (by kernel_rfl) ((opsOf 64 (Try.f7.body.getD .skip)).getD #[]) (by kernel_rfl) _ _ _ _ _ _ _ _ _ _ _ _ _ _ _ _ _ _ _ _ _ _ _ _ _ _ _ _ _ _ _ _ _ _ _ _ _ _ _ _ _ _ _ _ _ _ _ _ _ _ _ _ _ _ _ _ _ _ _ _ _ _ _ _ _ _ _ _ _ _ _ _ _ _ _ _ _ _ _ _ _ _ _ _ _ _ _ _ _ _ _ _ _ _ _ _ _ _ _ _ _ _ _ _ _ _ _ _ _ _ _ _ _ _ _ _ _ _ _ _ _ _ _ _ _ _ _ _ _ _ _ _ _ _ _ _ _ _ _ _ _ _ _ _ _ _ _ _ _ _ _ _ _ _ _ _ _ _ _ _ _ _ _ _ _ _ _ _ _ _ _ _ _ _ _ _ _ _ _ _ _ _ _ _ _ _ _ _ _ _ _ _ _ _ _ _ _ _ _ _ _ _ _ _ _ _ _ _ _ _ _ _ _ _ _ _ _ _ _ _ _ _ _ _ _ _ _ _ _ _ _ _ _ _ _ _ _ _ _ _ _ _ _ _ _ _ _ _ _ _ _ _ _ _ _ _ _ _ _ _ _ _ _ _ _ _ _ _ _ _ _ _ _ _ _ _ _ _ _ _ _ _ _ _ _ _ _ _ _ _ _ _ _ _ _ _ _ _ _ _ _ _ _ _ _ _ _ _ _ _ _ _ _ _ _ _ _ _ _ _ _ _ _ _ _ _ _ _ _ _ _ _ _ _ _ _ _ _ _ _ _ _ _ _ _ _ _ _ _ _ _ _ _ _ _ _ _ _ _ _ _ _ _ _ _ _ _ _ _ _ _ _ _ _ _ _ _ _ _ _ _ _ _ _ _ _ _ _ _ _ _ _ _ _ _ _ _ _ _ _ _ _ _ _ _ _ _ _ _ _ _ _ _ _ _ _ _ _ _ _ _ _ _ _ _ _ _ _ al F ks K q size up x1 x2 x3 x4 x5 gt ga gm gp gi kcap ca cp np ak aa ap w wb PI2.out.bl HF.out F3.out hal HKV.out hkk c1 HAV.out (rowG_of_owns PI2.out.ar) GP2.out (accR_below F7.out BB.out) F1.out ID.out PI2.out.mp F2.out (Nat.lt_of_lt_of_le lga BB9.out.size) ga4 F4.out F6.out.1 F6.out.2 m3 m4 gl offl ps.length ct ps hql rfl l1 (by omega) PI2.out.tb.lt (PI2.out.tb.c 0 (by simp)) (Nat.lt_of_lt_of_le l3 BB.out.size) (fun i hi j hj => (BB.out.cell (p := ⟨gl, offl + (i * 5 + j), none⟩) l3).trans (HROW.out i hi j hj)) HSH.out F5.out (fun c a a' w h => HPN.out c _ _ _ h) ?_
      intro v388 v389 v390 v391 v392 v393 v394 v395 v396 v397 v398 v399 v400 v401 v402 v403 v404 v405 v406 v407 v408 v409 v410 v411 v412 v413 v414 v415 v416 v417 v418 v419 v420 v421 v422 v423 v424 v425 v426 v427 v428 v429 v430 v431 v432 v433 v434 v435 wj hbj
      have HBJ := hidE (BB9.out.trans (hbj.mono BB9.out.size))
      clear hbj PI2 BB9 BB GP2 GP ID BI BA HROW F1 F2 F3 F4 F5 F6 F7 HF HSH PIr
      go_wp2_with fail
      go_roundw
      case rel => exact ⟨q + 1, by omega, by go_num, HBJ⟩
      case measure => simp [intOf]; omega
    · have hqe : q = ps.length := by omega
      subst hqe
      go_wp2_with fail
      exact HQ.out _ _ _ _ _ _ _ _ _ _ _ _ _ _ _ _ _ _ _ _ _ _ _ _ _ _ _ _ _ _ _ _ _ _ _ _ _ _ _ _ _ _ _ _ _ _ _ _ _ _ _ _ _ _ _ _ _ _ _ _ _ _ _ _ _ _ _ _ _ _ _ _ _ _ _ HB.out
end Go.Proofs.Ytoihjhhambgpfab

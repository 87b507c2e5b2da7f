/- The law PanesSays' loop that keeps what was added and has not ended, over this seat's translation, as a theorem of its own. Conditions: as named. -/
import Derived.Test.YtoihjhhambgpfabPaneZ
namespace Go.Proofs.Ytoihjhhambgpfab
open Go.ChangeShapes Go.WideShapes Go.ChangeAt Go.RowKit
set_option linter.unusedVariables false
set_option linter.unusedSimpArgs false

set_option maxRecDepth 100000 in
set_option maxHeartbeats 4000000 in
theorem loop5 (Q : Exit → Act → World → Prop) (C : Code) (hC : stm 41 (Try.f7.body.getD .skip) = some C) (u0 u2 u3 u4 u5 u6 u7 u8 u9 u11 u12 u14 u15 u16 u17 u18 u19 u20 u21 u22 u23 u26 u27 u28 u29 u30 u31 u32 u33 u34 u35 u36 u37 u38 u39 u40 u41 u42 u43 u44 u45 u46 u47 u48 u49 u50 u51 u52 u53 u54 u55 u56 u57 u58 u59 u60 u61 u62 u63 u64 u65 u66 u67 u68 u69 u70 u71 u72 u73 u74 u75 u76 u77 u78 u79 u80 u81 u82 u83 u84 u85 u86 u87 u88 u89 u90 u91 u92 u93 u94 u95 u96 u97 u98 u99 u100 u101 u102 u103 u104 u105 u106 u107 u108 u109 u110 u111 u112 u113 u114 u115 u116 u117 u118 u119 u120 u121 u122 u123 u124 u125 u126 u127 u128 u129 u130 u131 u132 u133 u134 u135 u136 u137 u138 u139 u140 u141 u142 u143 u144 u145 u146 u147 u148 u149 u150 u151 u152 u153 u154 u155 u156 u157 u158 u159 u160 u161 u162 u163 u164 u165 u166 u167 u168 u169 u170 u171 u172 u173 u174 u175 u176 u177 u178 u179 u180 u181 u182 u183 u184 u185 u186 u187 u188 u189 u190 u191 u192 u193 u194 u195 u196 u197 u198 u199 u200 u201 u202 u203 u204 u205 u206 u207 u208 u209 u210 u211 u212 u213 u214 u215 u216 u217 u218 u219 u220 u221 u222 u223 u224 u225 u226 u227 u228 u229 u230 u231 u232 u233 u234 u235 u236 u237 u238 u239 u240 u241 u242 u243 u244 u245 u246 u247 u248 u249 u250 u251 u252 u253 u254 u255 u256 u257 u258 u259 u260 u261 u262 u263 u264 u265 u266 u267 u268 u269 u270 u271 u272 u273 u274 u275 u276 u277 u278 u279 u280 u281 u282 u283 u284 u285 u286 u287 u288 u289 u290 u291 u292 u293 u294 u295 u296 u297 u298 u299 u300 u301 u302 u303 u304 u305 u306 u307 u308 u309 u310 u311 u312 u313 u314 u315 u316 u317 u318 u319 u320 u321 u322 u323 u324 u325 u326 u327 u328 u329 u330 u331 u332 u333 u334 u335 u336 u337 u338 u339 u340 u341 u342 u343 u344 u345 u346 u347 u348 u349 u350 u351 u352 u353 u354 u355 u356 u357 u358 u359 u360 u361 u362 u363 u364 u365 u366 u367 u368 u369 u370 u371 u372 u373 u374 u375 u376 u377 u378 u379 u380 u381 u382 u383 u384 u385 u386 u387 u388 u389 u390 u391 u392 u393 u394 u395 u396 u397 u398 u399 u400 u401 u402 u403 u404 u405 u406 u407 u408 u409 u410 u411 u412 u413 u414 u415 u416 u417 u418 u419 u420 u421 u422 u423 u424 u425 u426 u427 u428 u429 u430 u431 u432 u433 u434 u435 u436 : Value) (l : List Ad) (ga cap : Nat) (ao : Option Addr) (size dr : Int) (w : World)
    (hr : RowG w (.slice ao l.length cap) 6 l.length (rowOf cellsAd l)) (hl : l.length ≤ 100) (hs : ∀ a ∈ l, ∃ ao n cap, a.vv = .slice ao n cap) (hst : ∀ a ∈ l, -1000 ≤ a.st ∧ a.st ≤ 9999) (lga : ga < w.heap.size) (g5 : w.cell? ⟨ga, 5, none⟩ = some (.int .i64 dr)) (b3 : 1 ≤ size) (b4 : size ≤ 1000)
    (hQ : ∀ (lv v25 v299 v300 v301 v302 v303 v304 v305 v306 v307 v308 v309 v310 v311 v312 v313 v314 v315 v316 v317 v318 v319 v320 v321 : Value) w', Below w.heap.size w w' → w'.ownsRow w.heap.size 89 6 lv (l.filter (leftA size dr)).length (rowOf cellsAd (l.filter (leftA size dr))) → Q .normal { tmps := (u0 :: .int .i64 size :: u2 :: u3 :: u4 :: u5 :: u6 :: u7 :: u8 :: u9 :: .slice ao l.length cap :: u11 :: u12 :: .pointer (some ⟨ga, 0, none⟩) :: u14 :: u15 :: u16 :: u17 :: u18 :: u19 :: u20 :: u21 :: u22 :: u23 :: lv :: v25 :: u26 :: u27 :: u28 :: u29 :: u30 :: u31 :: u32 :: u33 :: u34 :: u35 :: u36 :: u37 :: u38 :: u39 :: u40 :: u41 :: u42 :: u43 :: u44 :: u45 :: u46 :: u47 :: u48 :: u49 :: u50 :: u51 :: u52 :: u53 :: u54 :: u55 :: u56 :: u57 :: u58 :: u59 :: u60 :: u61 :: u62 :: u63 :: u64 :: u65 :: u66 :: u67 :: u68 :: u69 :: u70 :: u71 :: u72 :: u73 :: u74 :: u75 :: u76 :: u77 :: u78 :: u79 :: u80 :: u81 :: u82 :: u83 :: u84 :: u85 :: u86 :: u87 :: u88 :: u89 :: u90 :: u91 :: u92 :: u93 :: u94 :: u95 :: u96 :: u97 :: u98 :: u99 :: u100 :: u101 :: u102 :: u103 :: u104 :: u105 :: u106 :: u107 :: u108 :: u109 :: u110 :: u111 :: u112 :: u113 :: u114 :: u115 :: u116 :: u117 :: u118 :: u119 :: u120 :: u121 :: u122 :: u123 :: u124 :: u125 :: u126 :: u127 :: u128 :: u129 :: u130 :: u131 :: u132 :: u133 :: u134 :: u135 :: u136 :: u137 :: u138 :: u139 :: u140 :: u141 :: u142 :: u143 :: u144 :: u145 :: u146 :: u147 :: u148 :: u149 :: u150 :: u151 :: u152 :: u153 :: u154 :: u155 :: u156 :: u157 :: u158 :: u159 :: u160 :: u161 :: u162 :: u163 :: u164 :: u165 :: u166 :: u167 :: u168 :: u169 :: u170 :: u171 :: u172 :: u173 :: u174 :: u175 :: u176 :: u177 :: u178 :: u179 :: u180 :: u181 :: u182 :: u183 :: u184 :: u185 :: u186 :: u187 :: u188 :: u189 :: u190 :: u191 :: u192 :: u193 :: u194 :: u195 :: u196 :: u197 :: u198 :: u199 :: u200 :: u201 :: u202 :: u203 :: u204 :: u205 :: u206 :: u207 :: u208 :: u209 :: u210 :: u211 :: u212 :: u213 :: u214 :: u215 :: u216 :: u217 :: u218 :: u219 :: u220 :: u221 :: u222 :: u223 :: u224 :: u225 :: u226 :: u227 :: u228 :: u229 :: u230 :: u231 :: u232 :: u233 :: u234 :: u235 :: u236 :: u237 :: u238 :: u239 :: u240 :: u241 :: u242 :: u243 :: u244 :: u245 :: u246 :: u247 :: u248 :: u249 :: u250 :: u251 :: u252 :: u253 :: u254 :: u255 :: u256 :: u257 :: u258 :: u259 :: u260 :: u261 :: u262 :: u263 :: u264 :: u265 :: u266 :: u267 :: u268 :: u269 :: u270 :: u271 :: u272 :: u273 :: u274 :: u275 :: u276 :: u277 :: u278 :: u279 :: u280 :: u281 :: u282 :: u283 :: u284 :: u285 :: u286 :: u287 :: u288 :: u289 :: u290 :: u291 :: u292 :: u293 :: u294 :: u295 :: u296 :: u297 :: u298 :: v299 :: v300 :: v301 :: v302 :: v303 :: v304 :: v305 :: v306 :: v307 :: v308 :: v309 :: v310 :: v311 :: v312 :: v313 :: v314 :: v315 :: v316 :: v317 :: v318 :: v319 :: v320 :: v321 :: u322 :: u323 :: u324 :: u325 :: u326 :: u327 :: u328 :: u329 :: u330 :: u331 :: u332 :: u333 :: u334 :: u335 :: u336 :: u337 :: u338 :: u339 :: u340 :: u341 :: u342 :: u343 :: u344 :: u345 :: u346 :: u347 :: u348 :: u349 :: u350 :: u351 :: u352 :: u353 :: u354 :: u355 :: u356 :: u357 :: u358 :: u359 :: u360 :: u361 :: u362 :: u363 :: u364 :: u365 :: u366 :: u367 :: u368 :: u369 :: u370 :: u371 :: u372 :: u373 :: u374 :: u375 :: u376 :: u377 :: u378 :: u379 :: u380 :: u381 :: u382 :: u383 :: u384 :: u385 :: u386 :: u387 :: u388 :: u389 :: u390 :: u391 :: u392 :: u393 :: u394 :: u395 :: u396 :: u397 :: u398 :: u399 :: u400 :: u401 :: u402 :: u403 :: u404 :: u405 :: u406 :: u407 :: u408 :: u409 :: u410 :: u411 :: u412 :: u413 :: u414 :: u415 :: u416 :: u417 :: u418 :: u419 :: u420 :: u421 :: u422 :: u423 :: u424 :: u425 :: u426 :: u427 :: u428 :: u429 :: u430 :: u431 :: u432 :: u433 :: u434 :: u435 :: u436 :: []).toArray, defers := [] } w') :
    Code.wp Try.prog C Q { tmps := (u0 :: .int .i64 size :: u2 :: u3 :: u4 :: u5 :: u6 :: u7 :: u8 :: u9 :: .slice ao l.length cap :: u11 :: u12 :: .pointer (some ⟨ga, 0, none⟩) :: u14 :: u15 :: u16 :: u17 :: u18 :: u19 :: u20 :: u21 :: u22 :: u23 :: .slice none 0 0 :: .int .i64 0 :: u26 :: u27 :: u28 :: u29 :: u30 :: u31 :: u32 :: u33 :: u34 :: u35 :: u36 :: u37 :: u38 :: u39 :: u40 :: u41 :: u42 :: u43 :: u44 :: u45 :: u46 :: u47 :: u48 :: u49 :: u50 :: u51 :: u52 :: u53 :: u54 :: u55 :: u56 :: u57 :: u58 :: u59 :: u60 :: u61 :: u62 :: u63 :: u64 :: u65 :: u66 :: u67 :: u68 :: u69 :: u70 :: u71 :: u72 :: u73 :: u74 :: u75 :: u76 :: u77 :: u78 :: u79 :: u80 :: u81 :: u82 :: u83 :: u84 :: u85 :: u86 :: u87 :: u88 :: u89 :: u90 :: u91 :: u92 :: u93 :: u94 :: u95 :: u96 :: u97 :: u98 :: u99 :: u100 :: u101 :: u102 :: u103 :: u104 :: u105 :: u106 :: u107 :: u108 :: u109 :: u110 :: u111 :: u112 :: u113 :: u114 :: u115 :: u116 :: u117 :: u118 :: u119 :: u120 :: u121 :: u122 :: u123 :: u124 :: u125 :: u126 :: u127 :: u128 :: u129 :: u130 :: u131 :: u132 :: u133 :: u134 :: u135 :: u136 :: u137 :: u138 :: u139 :: u140 :: u141 :: u142 :: u143 :: u144 :: u145 :: u146 :: u147 :: u148 :: u149 :: u150 :: u151 :: u152 :: u153 :: u154 :: u155 :: u156 :: u157 :: u158 :: u159 :: u160 :: u161 :: u162 :: u163 :: u164 :: u165 :: u166 :: u167 :: u168 :: u169 :: u170 :: u171 :: u172 :: u173 :: u174 :: u175 :: u176 :: u177 :: u178 :: u179 :: u180 :: u181 :: u182 :: u183 :: u184 :: u185 :: u186 :: u187 :: u188 :: u189 :: u190 :: u191 :: u192 :: u193 :: u194 :: u195 :: u196 :: u197 :: u198 :: u199 :: u200 :: u201 :: u202 :: u203 :: u204 :: u205 :: u206 :: u207 :: u208 :: u209 :: u210 :: u211 :: u212 :: u213 :: u214 :: u215 :: u216 :: u217 :: u218 :: u219 :: u220 :: u221 :: u222 :: u223 :: u224 :: u225 :: u226 :: u227 :: u228 :: u229 :: u230 :: u231 :: u232 :: u233 :: u234 :: u235 :: u236 :: u237 :: u238 :: u239 :: u240 :: u241 :: u242 :: u243 :: u244 :: u245 :: u246 :: u247 :: u248 :: u249 :: u250 :: u251 :: u252 :: u253 :: u254 :: u255 :: u256 :: u257 :: u258 :: u259 :: u260 :: u261 :: u262 :: u263 :: u264 :: u265 :: u266 :: u267 :: u268 :: u269 :: u270 :: u271 :: u272 :: u273 :: u274 :: u275 :: u276 :: u277 :: u278 :: u279 :: u280 :: u281 :: u282 :: u283 :: u284 :: u285 :: u286 :: u287 :: u288 :: u289 :: u290 :: u291 :: u292 :: u293 :: u294 :: u295 :: u296 :: u297 :: u298 :: u299 :: u300 :: u301 :: u302 :: u303 :: u304 :: u305 :: u306 :: u307 :: u308 :: u309 :: u310 :: u311 :: u312 :: u313 :: u314 :: u315 :: u316 :: u317 :: u318 :: u319 :: u320 :: u321 :: u322 :: u323 :: u324 :: u325 :: u326 :: u327 :: u328 :: u329 :: u330 :: u331 :: u332 :: u333 :: u334 :: u335 :: u336 :: u337 :: u338 :: u339 :: u340 :: u341 :: u342 :: u343 :: u344 :: u345 :: u346 :: u347 :: u348 :: u349 :: u350 :: u351 :: u352 :: u353 :: u354 :: u355 :: u356 :: u357 :: u358 :: u359 :: u360 :: u361 :: u362 :: u363 :: u364 :: u365 :: u366 :: u367 :: u368 :: u369 :: u370 :: u371 :: u372 :: u373 :: u374 :: u375 :: u376 :: u377 :: u378 :: u379 :: u380 :: u381 :: u382 :: u383 :: u384 :: u385 :: u386 :: u387 :: u388 :: u389 :: u390 :: u391 :: u392 :: u393 :: u394 :: u395 :: u396 :: u397 :: u398 :: u399 :: u400 :: u401 :: u402 :: u403 :: u404 :: u405 :: u406 :: u407 :: u408 :: u409 :: u410 :: u411 :: u412 :: u413 :: u414 :: u415 :: u416 :: u417 :: u418 :: u419 :: u420 :: u421 :: u422 :: u423 :: u424 :: u425 :: u426 :: u427 :: u428 :: u429 :: u430 :: u431 :: u432 :: u433 :: u434 :: u435 :: u436 :: []).toArray, defers := [] } w := by
  obtain ⟨i0, hi, hz0, hz1, hz2⟩ := info_parts infoAd
  have HQ := hidE hQ
  have HR := hidE hr
  have HS := hidE hs
  have HST := hidE hst
  have HG := hidE g5
  clear hQ hr hs hst g5
  unfold Try.f7 at hC
  simp [stm, lead] at hC
  subst hC
  go_wp2_with fail
  go_loopw [24, 25] (fun v i wr => ∃ (m : Nat), m ≤ l.length ∧ i = .int .i64 m ∧ Hid (wr.ownsRow w.heap.size 89 6 v ((l.take m).filter (leftA size dr)).length (rowOf cellsAd ((l.take m).filter (leftA size dr)))) ∧ Hid (Below w.heap.size w wr)) (fun v i _ => l.length - (intOf i).toNat)
  case atStart => exact ⟨0, Nat.zero_le _, rfl, World.ownsRow_nil _ _ _ _, Below.refl _ _⟩
  case round =>
    obtain ⟨m, hm, rfl, HO, HB⟩ := hrel
    obtain ⟨av, cv, rfl⟩ := owns_shapeE HO.out
    by_cases hlt : m < l.length
    · obtain ⟨g, off, rfl, hcell, q1, q2, lg⟩ := rowOf_val cellsAd_len (rowG_below HR.out HB.out) m hlt
      obtain ⟨ap, np, cp, hav⟩ := HS.out l[m] (List.getElem_mem hlt)
      have hb9 := HST.out l[m] (List.getElem_mem hlt)
      have TK := hidE (take_one l m hlt)
      generalize l[m] = p at *
      obtain ⟨x1, x2, x3, x4, x5, x6, x7⟩ := p
      simp only at hav hb9
      subst hav
      have y0 : wr.cell? ⟨g, off + m * 6, none⟩ = some (.int .i64 x1) := hcell 0 (by omega)
      have y1 : wr.cell? ⟨g, off + m * 6 + 1, none⟩ = some (.int .i64 x2) := hcell 1 (by omega)
      have y2 : wr.cell? ⟨g, off + m * 6 + 2, none⟩ = some (.int .i64 x3) := hcell 2 (by omega)
      have y3 : wr.cell? ⟨g, off + m * 6 + 3, none⟩ = some (.slice ap np cp) := hcell 3 (by omega)
      have y4 : wr.cell? ⟨g, off + m * 6 + 4, none⟩ = some (.int .i64 x6) := hcell 4 (by omega)
      have y5 : wr.cell? ⟨g, off + m * 6 + 5, none⟩ = some (.int .i64 x7) := hcell 5 (by omega)
      have k5 : wr.cell? ⟨ga, 5, none⟩ = some (.int .i64 dr) := (HB.out.cell (p := ⟨ga, 5, none⟩) lga).trans HG.out
      have lk : ga < wr.heap.size := Nat.lt_of_lt_of_le lga HB.out.size
      have FE : Hid ((l.take (m + 1)).filter (leftA size dr) = (l.take m).filter (leftA size dr) ++ if decide (dr < x1 + size) then [⟨x1, x2, x3, x4, .slice ap np cp, x6, x7⟩] else []) := by
        show _ = _
        rw [TK.out, List.filter_append, List.filter_cons]
        rfl
      have HFL : Hid (((l.take m).filter (leftA size dr)).length ≤ 100) := by
        have h1 := List.length_filter_le (leftA size dr) (l.take m)
        have h2 : (l.take m).length ≤ l.length := by rw [List.length_take]; omega
        show _ ≤ _
        omega
      unfold maxLen at q2
      clear hcell TK
      generalize hF : (l.take m).filter (leftA size dr) = F at *
      clear hF
      have HR0 : Hid (Below wr.heap.size wr wr) := Below.refl _ _
      have kn := kin_some wr
      obtain ⟨kc, kf⟩ := kin_rules wr
      generalize hb1 : decide (dr < x1 + size) = b1 at *
      cases b1
      · go_wp2_with fail
        refine wp_region_kin HR0 (by kernel_rfl) (by kernel_rfl) ?_
        repeat (go_big_quiet_step (fail))
        refine wpQuiet_nil ?_
        rintro _ ⟨pk, rfl⟩
        have HP := pk.h
        have HO2 := hidE (own_keep HO.out HP (Nat.le_refl _))
        have HB2 := nxt HB HP
        generalize pk.w = wp at *
        clear kc kf kn HR0 HP HO HB
        go_wp2_with fail
        go_roundw
        case rel => exact ⟨m + 1, by omega, by go_num, by rw [FE.out]; simpa using HO2, HB2⟩
        case measure => simp [intOf]; omega
      · go_wp2_with fail
        refine wp_region_kin HR0 (by kernel_rfl) (by kernel_rfl) ?_
        repeat (go_big_quiet_step (fail))
        refine wpQuiet_nil ?_
        rintro _ ⟨pk, rfl⟩
        have HP := pk.h
        have HO2 := hidE (own_keep HO.out HP (Nat.le_refl _))
        have HB2 := nxt HB HP
        rw [← HP.cell (p := ⟨g, off + m * 6, none⟩) lg] at y0
        rw [← HP.cell (p := ⟨g, off + m * 6 + 1, none⟩) lg] at y1
        rw [← HP.cell (p := ⟨g, off + m * 6 + 2, none⟩) lg] at y2
        rw [← HP.cell (p := ⟨g, off + m * 6 + 3, none⟩) lg] at y3
        rw [← HP.cell (p := ⟨g, off + m * 6 + 4, none⟩) lg] at y4
        rw [← HP.cell (p := ⟨g, off + m * 6 + 5, none⟩) lg] at y5
        generalize pk.w = wp at *
        clear kc kf kn HR0 HP HO HB k5 lk
        have al := (Below.refl wp.heap.size wp).alloc (Nat.le_refl _) (.cells #[.int .i64 x1, .int .i64 x2, .int .i64 x3, .slice ap np cp, .int .i64 x6, .int .i64 x7] 89)
        have HRV := hidE (own_keep HO2.out al (Nat.le_refl _))
        have HSZ : Hid (w.heap.size ≤ (wp.alloc (.cells #[.int .i64 x1, .int .i64 x2, .int .i64 x3, .slice ap np cp, .int .i64 x6, .int .i64 x7] 89)).heap.size) := hidE (by have := HB2.out.size; have := al.size; omega)
        have AL := hidE al
        have CN := hidE (cells6 wp ⟨x1, x2, x3, x4, .slice ap np cp, x6, x7⟩ wp.heap.size 89 rfl)
        have hfl := HFL.out
        clear al
        go_wp2_with (at_builtin; go_must (refine wpList_append_own_at _ rfl (.tmp 315) (.tmp 320) 83 rfl w.heap.size 89 i0 (.agg #[.int .i64 0, .int .i64 0, .int .i64 0, .slice none 0 0, .int .i64 0, .int .i64 0]) 6 64 Try.underlying83 hi hz0 hz1 hz2 rfl (by decide) _ _ _ rfl HRV.out _ 1 1 (cellsAd ⟨x1, x2, x3, x4, .slice ap np cp, x6, x7⟩) rfl rfl CN.out (by simp [cellsAd, Value.oneCell']) (by show _ ≤ 2 ^ 63 - 1; omega) (by omega) HSZ.out ?_))
        intro v' w6 ho hg _ hob
        have HB6 := hidE ((HB2.out.alloc HB2.out.size (.cells #[.int .i64 x1, .int .i64 x2, .int .i64 x3, .slice ap np cp, .int .i64 x6, .int .i64 x7] 89)).grown hg (by have := HB2.out.size; have := AL.out.size; omega) (fun k hk => by have := (own_at HO2.out k hk).1; omega))
        obtain ⟨a6, c6, rfl⟩ := owns_shapeE ho
        have HO6 := hidE ho
        clear ho hg hob HO2 HB2 AL HRV HSZ CN y0 y1 y2 y3 y4 y5
        go_wp2_with fail
        go_roundw
        case rel => exact ⟨m + 1, by omega, by go_num, by
          rw [FE.out]
          simp only [if_true]
          rw [List.length_append, rowOf_app, rowOf_one]
          exact HO6, HB6⟩
        case measure => simp [intOf]; omega
    · have hme : m = l.length := by omega
      subst hme
      simp only [List.take_length] at HO ⊢
      go_wp2_with fail
      exact HQ.out _ _ _ _ _ _ _ _ _ _ _ _ _ _ _ _ _ _ _ _ _ _ _ _ _ _ HB.out HO.out
end Go.Proofs.Ytoihjhhambgpfab

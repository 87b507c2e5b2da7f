/- The law PanesSays' loop that counts windows and keys, over this seat's translation, as a theorem of its own. Conditions: as named. -/
import Derived.Test.YtoihjhhambgpfabLawL6
namespace Go.Proofs.Ytoihjhhambgpfab
open Go.ChangeShapes Go.WideShapes Go.ChangeAt Go.RowKit
set_option linter.unusedVariables false
set_option linter.unusedSimpArgs false

theorem rowG_takeA {w : World} {g off cap : Nat} {l : List Ad} (h : RowG w (.slice (some ⟨g, off, none⟩) l.length cap) 6 l.length (rowOf cellsAd l)) (i : Nat) (hi : i ≤ l.length) :
    RowG w (.slice (some ⟨g, off, none⟩) i cap) 6 (l.take i).length (rowOf cellsAd (l.take i)) := by
  obtain ⟨h0, h1⟩ := h
  have hl : (l.take i).length = i := by rw [List.length_take, Nat.min_eq_left hi]
  rw [hl]
  have hr : (rowOf cellsAd (l.take i)).length = i * 6 := by rw [rowOf_len cellsAd_len, hl]
  refine ⟨hr, ?_⟩
  rcases h1 with ⟨-, hn⟩ | ⟨g, off, cap, h1, h2, h3, h4, h5⟩
  · have hi0 : i = 0 := by omega
    subst hi0
    exact .inl ⟨⟨_, _, rfl⟩, rfl⟩
  · cases h1
    refine .inr ⟨_, _, _, rfl, by omega, h3, h4, fun j hj => ?_⟩
    rw [h5 j (by omega)]
    have hs : rowOf cellsAd l = rowOf cellsAd (l.take i) ++ rowOf cellsAd (l.drop i) := by rw [← rowOf_app, List.take_append_drop]
    rw [hs, List.getElem?_append_left (by omega)]

set_option maxRecDepth 100000 in
set_option maxHeartbeats 4000000 in
theorem loop7 (Q : Exit → Act → World → Prop) (C : Code) (hC : stm 53 (Try.f7.body.getD .skip) = some C) (u0 u1 u2 u3 u4 u5 u6 u7 u8 u9 u11 u12 u13 u14 u15 u16 u17 u18 u19 u20 u21 u22 u23 u24 u25 u26 u29 u30 u31 u32 u33 u34 u35 u36 u37 u38 u39 u40 u41 u42 u43 u44 u45 u46 u47 u48 u49 u50 u51 u52 u53 u54 u55 u56 u57 u58 u59 u60 u61 u62 u63 u64 u65 u66 u67 u68 u69 u70 u71 u72 u73 u74 u75 u76 u77 u78 u79 u80 u81 u82 u83 u84 u85 u86 u87 u88 u89 u90 u91 u92 u93 u94 u95 u96 u97 u98 u99 u100 u101 u102 u103 u104 u105 u106 u107 u108 u109 u110 u111 u112 u113 u114 u115 u116 u117 u118 u119 u120 u121 u122 u123 u124 u125 u126 u127 u128 u129 u130 u131 u132 u133 u134 u135 u136 u137 u138 u139 u140 u141 u142 u143 u144 u145 u146 u147 u148 u149 u150 u151 u152 u153 u154 u155 u156 u157 u158 u159 u160 u161 u162 u163 u164 u165 u166 u167 u168 u169 u170 u171 u172 u173 u174 u175 u176 u177 u178 u179 u180 u181 u182 u183 u184 u185 u186 u187 u188 u189 u190 u191 u192 u193 u194 u195 u196 u197 u198 u199 u200 u201 u202 u203 u204 u205 u206 u207 u208 u209 u210 u211 u212 u213 u214 u215 u216 u217 u218 u219 u220 u221 u222 u223 u224 u225 u226 u227 u228 u229 u230 u231 u232 u233 u234 u235 u236 u237 u238 u239 u240 u241 u242 u243 u244 u245 u246 u247 u248 u249 u250 u251 u252 u253 u254 u255 u256 u257 u258 u259 u260 u261 u262 u263 u264 u265 u266 u267 u268 u269 u270 u271 u272 u273 u274 u275 u276 u277 u278 u279 u280 u281 u282 u283 u284 u285 u286 u287 u288 u289 u290 u291 u292 u293 u294 u295 u296 u297 u298 u299 u300 u301 u302 u303 u304 u305 u306 u307 u308 u309 u310 u311 u312 u313 u314 u315 u316 u317 u318 u319 u320 u321 u322 u323 u324 u325 u326 u327 u328 u329 u330 u331 u332 u333 u334 u335 u336 u337 u338 u339 u340 u341 u342 u343 u344 u345 u346 u347 u348 u349 u350 u351 u352 u353 u354 u355 u356 u357 u358 u359 u360 u361 u362 u363 u364 u365 u366 u367 u368 u369 u370 u371 u372 u373 u374 u375 u376 u377 u378 u379 u380 u381 u382 u383 u384 u385 u386 u387 u388 u389 u390 u391 u392 u393 u394 u395 u396 u397 u398 u399 u400 u401 u402 u403 u404 u405 u406 u407 u408 u409 u410 u411 u412 u413 u414 u415 u416 u417 u418 u419 u420 u421 u422 u423 u424 u425 u426 u427 u428 u429 u430 u431 u432 u433 u434 u435 u436 : Value) (l : List Ad) (cap : Nat) (ao : Option Addr) (w : World)
    (hr : RowG w (.slice ao l.length cap) 6 l.length (rowOf cellsAd l)) (hl : l.length ≤ 100) (hs : ∀ a ∈ l, ∃ ao n cap, a.vv = .slice ao n cap)
    (hpan : ∀ c a a' w, Q (.panic c) a w → Q (.panic c) a' w)
    (hQ : ∀ (v28 v338 v339 v340 v341 v342 v343 v344 v345 v346 v347 v348 v349 v350 v351 v352 v353 v354 v355 v356 v357 v358 v359 v360 v361 : Value) w', Below w.heap.size w w' → Q .normal { tmps := (u0 :: u1 :: u2 :: u3 :: u4 :: u5 :: u6 :: u7 :: u8 :: u9 :: .slice ao l.length cap :: u11 :: u12 :: u13 :: u14 :: u15 :: u16 :: u17 :: u18 :: u19 :: u20 :: u21 :: u22 :: u23 :: u24 :: u25 :: u26 :: .int .i64 ((fk l l.length).length : Nat) :: v28 :: u29 :: u30 :: u31 :: u32 :: u33 :: u34 :: u35 :: u36 :: u37 :: u38 :: u39 :: u40 :: u41 :: u42 :: u43 :: u44 :: u45 :: u46 :: u47 :: u48 :: u49 :: u50 :: u51 :: u52 :: u53 :: u54 :: u55 :: u56 :: u57 :: u58 :: u59 :: u60 :: u61 :: u62 :: u63 :: u64 :: u65 :: u66 :: u67 :: u68 :: u69 :: u70 :: u71 :: u72 :: u73 :: u74 :: u75 :: u76 :: u77 :: u78 :: u79 :: u80 :: u81 :: u82 :: u83 :: u84 :: u85 :: u86 :: u87 :: u88 :: u89 :: u90 :: u91 :: u92 :: u93 :: u94 :: u95 :: u96 :: u97 :: u98 :: u99 :: u100 :: u101 :: u102 :: u103 :: u104 :: u105 :: u106 :: u107 :: u108 :: u109 :: u110 :: u111 :: u112 :: u113 :: u114 :: u115 :: u116 :: u117 :: u118 :: u119 :: u120 :: u121 :: u122 :: u123 :: u124 :: u125 :: u126 :: u127 :: u128 :: u129 :: u130 :: u131 :: u132 :: u133 :: u134 :: u135 :: u136 :: u137 :: u138 :: u139 :: u140 :: u141 :: u142 :: u143 :: u144 :: u145 :: u146 :: u147 :: u148 :: u149 :: u150 :: u151 :: u152 :: u153 :: u154 :: u155 :: u156 :: u157 :: u158 :: u159 :: u160 :: u161 :: u162 :: u163 :: u164 :: u165 :: u166 :: u167 :: u168 :: u169 :: u170 :: u171 :: u172 :: u173 :: u174 :: u175 :: u176 :: u177 :: u178 :: u179 :: u180 :: u181 :: u182 :: u183 :: u184 :: u185 :: u186 :: u187 :: u188 :: u189 :: u190 :: u191 :: u192 :: u193 :: u194 :: u195 :: u196 :: u197 :: u198 :: u199 :: u200 :: u201 :: u202 :: u203 :: u204 :: u205 :: u206 :: u207 :: u208 :: u209 :: u210 :: u211 :: u212 :: u213 :: u214 :: u215 :: u216 :: u217 :: u218 :: u219 :: u220 :: u221 :: u222 :: u223 :: u224 :: u225 :: u226 :: u227 :: u228 :: u229 :: u230 :: u231 :: u232 :: u233 :: u234 :: u235 :: u236 :: u237 :: u238 :: u239 :: u240 :: u241 :: u242 :: u243 :: u244 :: u245 :: u246 :: u247 :: u248 :: u249 :: u250 :: u251 :: u252 :: u253 :: u254 :: u255 :: u256 :: u257 :: u258 :: u259 :: u260 :: u261 :: u262 :: u263 :: u264 :: u265 :: u266 :: u267 :: u268 :: u269 :: u270 :: u271 :: u272 :: u273 :: u274 :: u275 :: u276 :: u277 :: u278 :: u279 :: u280 :: u281 :: u282 :: u283 :: u284 :: u285 :: u286 :: u287 :: u288 :: u289 :: u290 :: u291 :: u292 :: u293 :: u294 :: u295 :: u296 :: u297 :: u298 :: u299 :: u300 :: u301 :: u302 :: u303 :: u304 :: u305 :: u306 :: u307 :: u308 :: u309 :: u310 :: u311 :: u312 :: u313 :: u314 :: u315 :: u316 :: u317 :: u318 :: u319 :: u320 :: u321 :: u322 :: u323 :: u324 :: u325 :: u326 :: u327 :: u328 :: u329 :: u330 :: u331 :: u332 :: u333 :: u334 :: u335 :: u336 :: u337 :: v338 :: v339 :: v340 :: v341 :: v342 :: v343 :: v344 :: v345 :: v346 :: v347 :: v348 :: v349 :: v350 :: v351 :: v352 :: v353 :: v354 :: v355 :: v356 :: v357 :: v358 :: v359 :: v360 :: v361 :: u362 :: u363 :: u364 :: u365 :: u366 :: u367 :: u368 :: u369 :: u370 :: u371 :: u372 :: u373 :: u374 :: u375 :: u376 :: u377 :: u378 :: u379 :: u380 :: u381 :: u382 :: u383 :: u384 :: u385 :: u386 :: u387 :: u388 :: u389 :: u390 :: u391 :: u392 :: u393 :: u394 :: u395 :: u396 :: u397 :: u398 :: u399 :: u400 :: u401 :: u402 :: u403 :: u404 :: u405 :: u406 :: u407 :: u408 :: u409 :: u410 :: u411 :: u412 :: u413 :: u414 :: u415 :: u416 :: u417 :: u418 :: u419 :: u420 :: u421 :: u422 :: u423 :: u424 :: u425 :: u426 :: u427 :: u428 :: u429 :: u430 :: u431 :: u432 :: u433 :: u434 :: u435 :: u436 :: []).toArray, defers := [] } w') :
    Code.wp Try.prog C Q { tmps := (u0 :: u1 :: u2 :: u3 :: u4 :: u5 :: u6 :: u7 :: u8 :: u9 :: .slice ao l.length cap :: u11 :: u12 :: u13 :: u14 :: u15 :: u16 :: u17 :: u18 :: u19 :: u20 :: u21 :: u22 :: u23 :: u24 :: u25 :: u26 :: .int .i64 0 :: .int .i64 0 :: u29 :: u30 :: u31 :: u32 :: u33 :: u34 :: u35 :: u36 :: u37 :: u38 :: u39 :: u40 :: u41 :: u42 :: u43 :: u44 :: u45 :: u46 :: u47 :: u48 :: u49 :: u50 :: u51 :: u52 :: u53 :: u54 :: u55 :: u56 :: u57 :: u58 :: u59 :: u60 :: u61 :: u62 :: u63 :: u64 :: u65 :: u66 :: u67 :: u68 :: u69 :: u70 :: u71 :: u72 :: u73 :: u74 :: u75 :: u76 :: u77 :: u78 :: u79 :: u80 :: u81 :: u82 :: u83 :: u84 :: u85 :: u86 :: u87 :: u88 :: u89 :: u90 :: u91 :: u92 :: u93 :: u94 :: u95 :: u96 :: u97 :: u98 :: u99 :: u100 :: u101 :: u102 :: u103 :: u104 :: u105 :: u106 :: u107 :: u108 :: u109 :: u110 :: u111 :: u112 :: u113 :: u114 :: u115 :: u116 :: u117 :: u118 :: u119 :: u120 :: u121 :: u122 :: u123 :: u124 :: u125 :: u126 :: u127 :: u128 :: u129 :: u130 :: u131 :: u132 :: u133 :: u134 :: u135 :: u136 :: u137 :: u138 :: u139 :: u140 :: u141 :: u142 :: u143 :: u144 :: u145 :: u146 :: u147 :: u148 :: u149 :: u150 :: u151 :: u152 :: u153 :: u154 :: u155 :: u156 :: u157 :: u158 :: u159 :: u160 :: u161 :: u162 :: u163 :: u164 :: u165 :: u166 :: u167 :: u168 :: u169 :: u170 :: u171 :: u172 :: u173 :: u174 :: u175 :: u176 :: u177 :: u178 :: u179 :: u180 :: u181 :: u182 :: u183 :: u184 :: u185 :: u186 :: u187 :: u188 :: u189 :: u190 :: u191 :: u192 :: u193 :: u194 :: u195 :: u196 :: u197 :: u198 :: u199 :: u200 :: u201 :: u202 :: u203 :: u204 :: u205 :: u206 :: u207 :: u208 :: u209 :: u210 :: u211 :: u212 :: u213 :: u214 :: u215 :: u216 :: u217 :: u218 :: u219 :: u220 :: u221 :: u222 :: u223 :: u224 :: u225 :: u226 :: u227 :: u228 :: u229 :: u230 :: u231 :: u232 :: u233 :: u234 :: u235 :: u236 :: u237 :: u238 :: u239 :: u240 :: u241 :: u242 :: u243 :: u244 :: u245 :: u246 :: u247 :: u248 :: u249 :: u250 :: u251 :: u252 :: u253 :: u254 :: u255 :: u256 :: u257 :: u258 :: u259 :: u260 :: u261 :: u262 :: u263 :: u264 :: u265 :: u266 :: u267 :: u268 :: u269 :: u270 :: u271 :: u272 :: u273 :: u274 :: u275 :: u276 :: u277 :: u278 :: u279 :: u280 :: u281 :: u282 :: u283 :: u284 :: u285 :: u286 :: u287 :: u288 :: u289 :: u290 :: u291 :: u292 :: u293 :: u294 :: u295 :: u296 :: u297 :: u298 :: u299 :: u300 :: u301 :: u302 :: u303 :: u304 :: u305 :: u306 :: u307 :: u308 :: u309 :: u310 :: u311 :: u312 :: u313 :: u314 :: u315 :: u316 :: u317 :: u318 :: u319 :: u320 :: u321 :: u322 :: u323 :: u324 :: u325 :: u326 :: u327 :: u328 :: u329 :: u330 :: u331 :: u332 :: u333 :: u334 :: u335 :: u336 :: u337 :: u338 :: u339 :: u340 :: u341 :: u342 :: u343 :: u344 :: u345 :: u346 :: u347 :: u348 :: u349 :: u350 :: u351 :: u352 :: u353 :: u354 :: u355 :: u356 :: u357 :: u358 :: u359 :: u360 :: u361 :: u362 :: u363 :: u364 :: u365 :: u366 :: u367 :: u368 :: u369 :: u370 :: u371 :: u372 :: u373 :: u374 :: u375 :: u376 :: u377 :: u378 :: u379 :: u380 :: u381 :: u382 :: u383 :: u384 :: u385 :: u386 :: u387 :: u388 :: u389 :: u390 :: u391 :: u392 :: u393 :: u394 :: u395 :: u396 :: u397 :: u398 :: u399 :: u400 :: u401 :: u402 :: u403 :: u404 :: u405 :: u406 :: u407 :: u408 :: u409 :: u410 :: u411 :: u412 :: u413 :: u414 :: u415 :: u416 :: u417 :: u418 :: u419 :: u420 :: u421 :: u422 :: u423 :: u424 :: u425 :: u426 :: u427 :: u428 :: u429 :: u430 :: u431 :: u432 :: u433 :: u434 :: u435 :: u436 :: []).toArray, defers := [] } w := by
  have HQ := hidE hQ
  have HR := hidE hr
  have HS := hidE hs
  have HPN := hidE hpan
  clear hQ hr hs hpan
  unfold Try.f7 at hC
  simp [stm, lead] at hC
  subst hC
  go_wp2_with fail
  go_loopw [27, 28] (fun c i wr => ∃ (m : Nat), m ≤ l.length ∧ i = .int .i64 m ∧ c = .int .i64 ((fk l m).length : Nat) ∧ Hid (Below w.heap.size w wr)) (fun c i _ => l.length - (intOf i).toNat)
  case atStart => exact ⟨0, Nat.zero_le _, rfl, rfl, Below.refl _ _⟩
  case round =>
    obtain ⟨m, hm, rfl, rfl, HB⟩ := hrel
    have hfk := fk_len l m
    by_cases hlt : m < l.length
    · have RG := rowG_below HR.out HB.out
      obtain ⟨g, off, rfl, hcell, q1, q2, lg⟩ := rowOf_val cellsAd_len RG m hlt
      have RT := hidE (rowG_takeA RG m hm)
      have KEY : Hid (∀ p, l[m] = p → fk l (m + 1) = fk l m ++ (if ((l.take m).filter (isOf p.st p.k p.n)).length = 0 then [keyA p] else [])) := fun p hp => by
        subst hp
        have hg : l.getD m ⟨0, 0, 0, [], .bool false, 0, 0⟩ = l[m] := by simp [List.getD, hlt]
        show fk l m ++ _ = _
        rw [hg]
        rfl
      have KEY := hidE (KEY.out l[m] rfl)
      generalize l[m] = p at *
      obtain ⟨x1, x2, x3, x4, x5, x6, x7⟩ := p
      have y0 : wr.cell? ⟨g, off + m * 6, none⟩ = some (.int .i64 x1) := hcell 0 (by omega)
      have y1 : wr.cell? ⟨g, off + m * 6 + 1, none⟩ = some (.int .i64 x2) := hcell 1 (by omega)
      have y2 : wr.cell? ⟨g, off + m * 6 + 2, none⟩ = some (.int .i64 x3) := hcell 2 (by omega)
      have htl : (l.take m).length = m := by rw [List.length_take]; omega
      have OF := hidE (fun w' (h : Below wr.heap.size wr w') => of_any (l.take m) (.slice (some ⟨g, off, none⟩) m cap) x1 x2 x3 w' (by omega) (rowG_below RT.out h) (fun a ha => HS.out a (List.mem_of_mem_take ha)))
      unfold maxLen at q2
      have hmc : m ≤ cap := by omega
      simp only at KEY
      obtain ⟨w13, hw13⟩ : ∃ w13, w13 = wr := ⟨_, rfl⟩
      subst hw13
      have HBr : Hid (Below w13.heap.size w13 w13.drew) := (Below.refl _ _).drew
      clear hcell RG RT htl
      go_wp2_with fail
      refine wp_region_held (S := fun w' => Below w13.heap.size w13 w') (by kernel_rfl) ?_
      generalize hwd : ({ w13 with drawn := w13.drawn + 1 } : World) = wd at *
      have hwd2 : w13.drew = wd := hwd
      rw [hwd2] at HBr
      clear hwd hwd2
      refine held_take (i := 0) (v := .slice (some ⟨g, off, none⟩) l.length cap) (L := #[true, false, false, false, false, false, false, false, false, false, false, false, false, false, false, false]) rfl (by kernel_rfl) (by kernel_rfl) (by kernel_rfl) (fun c a w h => HPN.out c _ _ _ h) (Or.inl ⟨by kernel_rfl, fun wq hq => by go_simp⟩) HBr.out (by kernel_rfl) ?_
      refine held_take (i := 1) (v := .int .i64 (m : Int)) (L := #[true, true, false, false, false, false, false, false, false, false, false, false, false, false, false, false]) rfl (by kernel_rfl) (by kernel_rfl) (by kernel_rfl) (fun c a w h => HPN.out c _ _ _ h) (Or.inl ⟨by kernel_rfl, fun wq hq => by go_simp⟩) HBr.out (by kernel_rfl) ?_
      refine held_take (i := 2) (v := .slice (some ⟨g, off, none⟩) m cap) (L := #[true, true, true, false, false, false, false, false, false, false, false, false, false, false, false, false]) rfl (by kernel_rfl) (by kernel_rfl) (by kernel_rfl) (fun c a w h => HPN.out c _ _ _ h) (Or.inl ⟨by kernel_rfl, fun wq hq => by go_simp⟩) HBr.out (by kernel_rfl) ?_
      refine held_take (i := 3) (v := .slice (some ⟨g, off, none⟩) l.length cap) (L := #[true, true, true, true, false, false, false, false, false, false, false, false, false, false, false, false]) rfl (by kernel_rfl) (by kernel_rfl) (by kernel_rfl) (fun c a w h => HPN.out c _ _ _ h) (Or.inl ⟨by kernel_rfl, fun wq hq => by go_simp⟩) HBr.out (by kernel_rfl) ?_
      refine held_take (i := 4) (v := .int .i64 (m : Int)) (L := #[true, true, true, true, true, false, false, false, false, false, false, false, false, false, false, false]) rfl (by kernel_rfl) (by kernel_rfl) (by kernel_rfl) (fun c a w h => HPN.out c _ _ _ h) (Or.inl ⟨by kernel_rfl, fun wq hq => by go_simp⟩) HBr.out (by kernel_rfl) ?_
      refine held_take (i := 5) (v := .pointer (some ⟨g, off + m * 6, none⟩)) (L := #[true, true, true, true, true, true, false, false, false, false, false, false, false, false, false, false]) rfl (by kernel_rfl) (by kernel_rfl) (by kernel_rfl) (fun c a w h => HPN.out c _ _ _ h) (Or.inl ⟨by kernel_rfl, fun wq hq => by go_simp⟩) HBr.out (by kernel_rfl) ?_
      refine held_take (i := 6) (v := .pointer (some ⟨g, off + m * 6, none⟩)) (L := #[true, true, true, true, true, true, true, false, false, false, false, false, false, false, false, false]) rfl (by kernel_rfl) (by kernel_rfl) (by kernel_rfl) (fun c a w h => HPN.out c _ _ _ h) (Or.inl ⟨by kernel_rfl, fun wq hq => by go_simp⟩) HBr.out (by kernel_rfl) ?_
      refine held_take (i := 7) (v := .int .i64 x1) (L := #[true, true, true, true, true, true, true, true, false, false, false, false, false, false, false, false]) rfl (by kernel_rfl) (by kernel_rfl) (by kernel_rfl) (fun c a w h => HPN.out c _ _ _ h) (Or.inl ⟨by kernel_rfl, fun wq hq => by have q0 := hq.cell (p := ⟨g, off + m * 6, none⟩) lg; rw [y0] at q0; go_simp⟩) HBr.out (by kernel_rfl) ?_
      refine held_take (i := 8) (v := .slice (some ⟨g, off, none⟩) l.length cap) (L := #[true, true, true, true, true, true, true, true, true, false, false, false, false, false, false, false]) rfl (by kernel_rfl) (by kernel_rfl) (by kernel_rfl) (fun c a w h => HPN.out c _ _ _ h) (Or.inl ⟨by kernel_rfl, fun wq hq => by go_simp⟩) HBr.out (by kernel_rfl) ?_
      refine held_take (i := 9) (v := .int .i64 (m : Int)) (L := #[true, true, true, true, true, true, true, true, true, true, false, false, false, false, false, false]) rfl (by kernel_rfl) (by kernel_rfl) (by kernel_rfl) (fun c a w h => HPN.out c _ _ _ h) (Or.inl ⟨by kernel_rfl, fun wq hq => by go_simp⟩) HBr.out (by kernel_rfl) ?_
      refine held_take (i := 10) (v := .pointer (some ⟨g, off + m * 6, none⟩)) (L := #[true, true, true, true, true, true, true, true, true, true, true, false, false, false, false, false]) rfl (by kernel_rfl) (by kernel_rfl) (by kernel_rfl) (fun c a w h => HPN.out c _ _ _ h) (Or.inl ⟨by kernel_rfl, fun wq hq => by go_simp⟩) HBr.out (by kernel_rfl) ?_
      refine held_take (i := 11) (v := .pointer (some ⟨g, off + m * 6 + 1, none⟩)) (L := #[true, true, true, true, true, true, true, true, true, true, true, true, false, false, false, false]) rfl (by kernel_rfl) (by kernel_rfl) (by kernel_rfl) (fun c a w h => HPN.out c _ _ _ h) (Or.inl ⟨by kernel_rfl, fun wq hq => by go_simp⟩) HBr.out (by kernel_rfl) ?_
      refine held_take (i := 12) (v := .agg #[.int .i64 x2, .int .i64 x3]) (L := #[true, true, true, true, true, true, true, true, true, true, true, true, true, false, false, false]) rfl (by kernel_rfl) (by kernel_rfl) (by kernel_rfl) (fun c a w h => HPN.out c _ _ _ h) (Or.inl ⟨by kernel_rfl, fun wq hq => by have q1 := hq.cell (p := ⟨g, off + m * 6 + 1, none⟩) lg; rw [y1] at q1; have q2 := hq.cell (p := ⟨g, off + m * 6 + 2, none⟩) lg; rw [y2] at q2; go_simp⟩) HBr.out (by kernel_rfl) ?_
      refine held_go (i := 13) (L := #[true, true, true, true, true, true, true, true, true, true, true, true, true, true, false, false]) (by kernel_rfl) rfl (by kernel_rfl) (by kernel_rfl) ?_
      intro K' hK
      go_simp
      refine (OF.out _ HBr.out).mono ?_
      rintro e wz ⟨uo, rfl, hro, hb⟩
      have HBr := hidE (HBr.out.trans (hb.mono HBr.out.size))
      obtain ⟨a1o, c1o, rfl⟩ := rowG_shape hro
      clear hb hro OF
      generalize hfl : ((l.take m).filter (isOf x1 x2 x3)).length = fl at *
      refine hK _ _ ⟨HBr.out, ?_⟩
      clear hK
      refine held_take (i := 14) (v := .int .i64 (fl : Int)) (L := #[true, true, true, true, true, true, true, true, true, true, true, true, true, true, true, false]) rfl (by kernel_rfl) (by kernel_rfl) (by kernel_rfl) (fun c a w h => HPN.out c _ _ _ h) (Or.inl ⟨by kernel_rfl, fun wq hq => by go_simp⟩) HBr.out (by kernel_rfl) ?_
      refine held_take (i := 15) (v := .bool ((fl : Int) == 0)) (L := #[true, true, true, true, true, true, true, true, true, true, true, true, true, true, true, true]) rfl (by kernel_rfl) (by kernel_rfl) (by kernel_rfl) (fun c a w h => HPN.out c _ _ _ h) (Or.inl ⟨by kernel_rfl, fun wq hq => by go_simp⟩) HBr.out (by kernel_rfl) ?_
      refine wpAnyH_done (by kernel_rfl) ?_ _
      have HFL := hidE hfl
      have HB2 := nxt HB HBr.out
      by_cases hz : fl = 0
      · have dz : ((fl : Int) == 0) = true := by simp [hz]
        have KE : Hid ((fk l (m + 1)).length = (fk l m).length + 1) := by
          show _ = _
          rw [KEY.out, if_pos hz]
          simp
        generalize hfm : (fk l m).length = fm at *
        clear hfl KEY hz hfm
        go_wp2_with fail
        go_roundw
        case rel => exact ⟨m + 1, by omega, by go_num, by rw [KE.out]; go_num, HB2⟩
        case measure => simp [intOf]; omega
      · have dz : ((fl : Int) == 0) = false := by simp [hz]
        have KE : Hid ((fk l (m + 1)).length = (fk l m).length) := by
          show _ = _
          rw [KEY.out, if_neg hz, List.append_nil]
        clear hfl KEY hz
        go_wp2_with fail
        go_roundw
        case rel => exact ⟨m + 1, by omega, by go_num, by rw [KE.out], HB2⟩
        case measure => simp [intOf]; omega
    · have hme : m = l.length := by omega
      subst hme
      clear hfk
      go_wp2_with fail
      exact HQ.out _ _ _ _ _ _ _ _ _ _ _ _ _ _ _ _ _ _ _ _ _ _ _ _ _ _ HB.out
end Go.Proofs.Ytoihjhhambgpfab

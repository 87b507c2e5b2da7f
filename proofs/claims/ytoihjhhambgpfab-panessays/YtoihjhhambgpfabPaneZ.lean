/- The law PanesSays' loop over what is told, over this seat's translation, as a theorem of its own. Conditions: as named. -/
import Derived.Test.YtoihjhhambgpfabPaneY
namespace Go.Proofs.Ytoihjhhambgpfab
open Go.ChangeShapes Go.WideShapes Go.ChangeAt Go.RowKit
set_option linter.unusedVariables false
set_option linter.unusedSimpArgs false

/-- the number of the first region -/
def lead : Code → Option Nat
  | .region id _ _ => some id
  | .seq a _ => lead a
  | .cond _ a _ => lead a
  | .block _ b => lead b
  | .loop b => lead b
  | .scope b => lead b
  | _ => none
/-- the statement (no sequence) that opens with the region of that number -/
def stm (n : Nat) : Code → Option Code
  | .seq a b => (stm n a).or (stm n b)
  | .region id ops d => if id = n then some (.region id ops d) else none
  | .cond c a b => if lead a = some n then some (.cond c a b) else (stm n a).or (stm n b)
  | .block i b => if lead b = some n then some (.block i b) else stm n b
  | .loop b => if lead b = some n then some (.loop b) else stm n b
  | .scope b => if lead b = some n then some (.scope b) else stm n b
  | _ => none

set_option maxRecDepth 100000 in
set_option maxHeartbeats 4000000 in
theorem loop4 (Q : Exit → Act → World → Prop) (C : Code) (hC : stm 32 (Try.f7.body.getD .skip) = some C) (u0 u2 u3 u4 u5 u6 u7 u8 u9 u10 u12 u14 u15 u16 u17 u18 u19 u20 u23 u24 u25 u26 u27 u28 u29 u30 u31 u32 u33 u34 u35 u36 u37 u38 u39 u40 u41 u42 u43 u44 u45 u46 u47 u48 u49 u50 u51 u52 u53 u54 u55 u56 u57 u58 u59 u60 u61 u62 u63 u64 u65 u66 u67 u68 u69 u70 u71 u72 u73 u74 u75 u76 u77 u78 u79 u80 u81 u82 u83 u84 u85 u86 u87 u88 u89 u90 u91 u92 u93 u94 u95 u96 u97 u98 u99 u100 u101 u102 u103 u104 u105 u106 u107 u108 u109 u110 u111 u112 u113 u114 u115 u116 u117 u118 u119 u120 u121 u122 u123 u124 u125 u126 u127 u128 u129 u130 u131 u132 u133 u134 u135 u136 u137 u138 u139 u140 u141 u142 u143 u144 u145 u146 u147 u148 u149 u150 u151 u152 u153 u154 u155 u156 u157 u158 u159 u160 u161 u162 u163 u164 u165 u166 u167 u168 u169 u170 u171 u172 u173 u174 u175 u176 u177 u178 u179 u180 u181 u182 u183 u184 u185 u186 u187 u188 u189 u190 u191 u192 u193 u194 u195 u196 u197 u198 u199 u200 u201 u202 u203 u204 u205 u206 u207 u208 u209 u210 u211 u212 u213 u214 u215 u216 u217 u218 u219 u220 u221 u222 u223 u224 u225 u226 u227 u228 u229 u230 u231 u232 u233 u234 u235 u236 u237 u238 u239 u240 u241 u242 u243 u244 u245 u246 u247 u248 u249 u250 u251 u252 u253 u254 u255 u256 u257 u258 u259 u260 u261 u262 u263 u264 u265 u266 u267 u268 u269 u270 u271 u272 u273 u274 u275 u276 u277 u278 u279 u280 u281 u282 u283 u284 u285 u286 u287 u288 u289 u290 u291 u292 u293 u294 u295 u296 u297 u298 u299 u300 u301 u302 u303 u304 u305 u306 u307 u308 u309 u310 u311 u312 u313 u314 u315 u316 u317 u318 u319 u320 u321 u322 u323 u324 u325 u326 u327 u328 u329 u330 u331 u332 u333 u334 u335 u336 u337 u338 u339 u340 u341 u342 u343 u344 u345 u346 u347 u348 u349 u350 u351 u352 u353 u354 u355 u356 u357 u358 u359 u360 u361 u362 u363 u364 u365 u366 u367 u368 u369 u370 u371 u372 u373 u374 u375 u376 u377 u378 u379 u380 u381 u382 u383 u384 u385 u386 u387 u388 u389 u390 u391 u392 u393 u394 u395 u396 u397 u398 u399 u400 u401 u402 u403 u404 u405 u406 u407 u408 u409 u410 u411 u412 u413 u414 u415 u416 u417 u418 u419 u420 u421 u422 u423 u424 u425 u426 u427 u428 u429 u430 u431 u432 u433 u434 u435 u436 : Value) (T ps : List Pn) (al9 : List Ad) (ks : List Int) (K : List K3) (gm ga lc : Nat) (al : Option Addr) (size up : Int) (w : World)
    (hT : TblR w (.slice al T.length lc) T) (hT1 : T.length ≤ 1000) (hgm : ∀ k, (Value.slice al T.length lc).ownBlock = some k → k ≠ gm) (hk : T.map keyP = (ps.filter (isDue size up)).map keyP) (hP : PP ks al9 ps K) (hM : MapR w gm K) (lga : ga < w.heap.size) (nga : ga ≠ gm) (g4 : w.cell? ⟨ga, 4, none⟩ = some (.int .i64 up)) (b3 : 1 ≤ size) (b4 : size ≤ 1000)
    (hpan : ∀ c a a' w, Q (.panic c) a w → Q (.panic c) a' w)
    (hQ : ∀ (v6 v22 v23 v236 v237 v238 v239 v240 v241 v242 v243 v244 v245 v246 v247 v248 v249 v250 v251 v252 v253 v254 v255 v256 v257 v258 v259 v260 v261 v262 v263 v264 v265 v266 v267 v268 v269 v270 v271 v272 v273 v274 v275 v276 v277 v278 v279 v280 v281 v282 v283 v284 v285 v286 v287 v288 v289 v290 v291 v292 v293 : Value) w', KeptB w w' (fun k => k = gm) → MapR w' gm (K ++ T.map keyP) → Q .normal { tmps := (u0 :: .int .i64 size :: u2 :: u3 :: u4 :: u5 :: v6 :: u7 :: u8 :: u9 :: u10 :: .map (some gm) :: u12 :: .pointer (some ⟨ga, 0, none⟩) :: u14 :: u15 :: u16 :: u17 :: u18 :: u19 :: u20 :: .slice al T.length lc :: v22 :: v23 :: u24 :: u25 :: u26 :: u27 :: u28 :: u29 :: u30 :: u31 :: u32 :: u33 :: u34 :: u35 :: u36 :: u37 :: u38 :: u39 :: u40 :: u41 :: u42 :: u43 :: u44 :: u45 :: u46 :: u47 :: u48 :: u49 :: u50 :: u51 :: u52 :: u53 :: u54 :: u55 :: u56 :: u57 :: u58 :: u59 :: u60 :: u61 :: u62 :: u63 :: u64 :: u65 :: u66 :: u67 :: u68 :: u69 :: u70 :: u71 :: u72 :: u73 :: u74 :: u75 :: u76 :: u77 :: u78 :: u79 :: u80 :: u81 :: u82 :: u83 :: u84 :: u85 :: u86 :: u87 :: u88 :: u89 :: u90 :: u91 :: u92 :: u93 :: u94 :: u95 :: u96 :: u97 :: u98 :: u99 :: u100 :: u101 :: u102 :: u103 :: u104 :: u105 :: u106 :: u107 :: u108 :: u109 :: u110 :: u111 :: u112 :: u113 :: u114 :: u115 :: u116 :: u117 :: u118 :: u119 :: u120 :: u121 :: u122 :: u123 :: u124 :: u125 :: u126 :: u127 :: u128 :: u129 :: u130 :: u131 :: u132 :: u133 :: u134 :: u135 :: u136 :: u137 :: u138 :: u139 :: u140 :: u141 :: u142 :: u143 :: u144 :: u145 :: u146 :: u147 :: u148 :: u149 :: u150 :: u151 :: u152 :: u153 :: u154 :: u155 :: u156 :: u157 :: u158 :: u159 :: u160 :: u161 :: u162 :: u163 :: u164 :: u165 :: u166 :: u167 :: u168 :: u169 :: u170 :: u171 :: u172 :: u173 :: u174 :: u175 :: u176 :: u177 :: u178 :: u179 :: u180 :: u181 :: u182 :: u183 :: u184 :: u185 :: u186 :: u187 :: u188 :: u189 :: u190 :: u191 :: u192 :: u193 :: u194 :: u195 :: u196 :: u197 :: u198 :: u199 :: u200 :: u201 :: u202 :: u203 :: u204 :: u205 :: u206 :: u207 :: u208 :: u209 :: u210 :: u211 :: u212 :: u213 :: u214 :: u215 :: u216 :: u217 :: u218 :: u219 :: u220 :: u221 :: u222 :: u223 :: u224 :: u225 :: u226 :: u227 :: u228 :: u229 :: u230 :: u231 :: u232 :: u233 :: u234 :: u235 :: v236 :: v237 :: v238 :: v239 :: v240 :: v241 :: v242 :: v243 :: v244 :: v245 :: v246 :: v247 :: v248 :: v249 :: v250 :: v251 :: v252 :: v253 :: v254 :: v255 :: v256 :: v257 :: v258 :: v259 :: v260 :: v261 :: v262 :: v263 :: v264 :: v265 :: v266 :: v267 :: v268 :: v269 :: v270 :: v271 :: v272 :: v273 :: v274 :: v275 :: v276 :: v277 :: v278 :: v279 :: v280 :: v281 :: v282 :: v283 :: v284 :: v285 :: v286 :: v287 :: v288 :: v289 :: v290 :: v291 :: v292 :: v293 :: u294 :: u295 :: u296 :: u297 :: u298 :: u299 :: u300 :: u301 :: u302 :: u303 :: u304 :: u305 :: u306 :: u307 :: u308 :: u309 :: u310 :: u311 :: u312 :: u313 :: u314 :: u315 :: u316 :: u317 :: u318 :: u319 :: u320 :: u321 :: u322 :: u323 :: u324 :: u325 :: u326 :: u327 :: u328 :: u329 :: u330 :: u331 :: u332 :: u333 :: u334 :: u335 :: u336 :: u337 :: u338 :: u339 :: u340 :: u341 :: u342 :: u343 :: u344 :: u345 :: u346 :: u347 :: u348 :: u349 :: u350 :: u351 :: u352 :: u353 :: u354 :: u355 :: u356 :: u357 :: u358 :: u359 :: u360 :: u361 :: u362 :: u363 :: u364 :: u365 :: u366 :: u367 :: u368 :: u369 :: u370 :: u371 :: u372 :: u373 :: u374 :: u375 :: u376 :: u377 :: u378 :: u379 :: u380 :: u381 :: u382 :: u383 :: u384 :: u385 :: u386 :: u387 :: u388 :: u389 :: u390 :: u391 :: u392 :: u393 :: u394 :: u395 :: u396 :: u397 :: u398 :: u399 :: u400 :: u401 :: u402 :: u403 :: u404 :: u405 :: u406 :: u407 :: u408 :: u409 :: u410 :: u411 :: u412 :: u413 :: u414 :: u415 :: u416 :: u417 :: u418 :: u419 :: u420 :: u421 :: u422 :: u423 :: u424 :: u425 :: u426 :: u427 :: u428 :: u429 :: u430 :: u431 :: u432 :: u433 :: u434 :: u435 :: u436 :: []).toArray, defers := [] } w') :
    Code.wp Try.prog C Q { tmps := (u0 :: .int .i64 size :: u2 :: u3 :: u4 :: u5 :: u6 :: u7 :: u8 :: u9 :: u10 :: .map (some gm) :: u12 :: .pointer (some ⟨ga, 0, none⟩) :: u14 :: u15 :: u16 :: u17 :: u18 :: u19 :: u20 :: .slice al T.length lc :: .int .i64 0 :: u23 :: u24 :: u25 :: u26 :: u27 :: u28 :: u29 :: u30 :: u31 :: u32 :: u33 :: u34 :: u35 :: u36 :: u37 :: u38 :: u39 :: u40 :: u41 :: u42 :: u43 :: u44 :: u45 :: u46 :: u47 :: u48 :: u49 :: u50 :: u51 :: u52 :: u53 :: u54 :: u55 :: u56 :: u57 :: u58 :: u59 :: u60 :: u61 :: u62 :: u63 :: u64 :: u65 :: u66 :: u67 :: u68 :: u69 :: u70 :: u71 :: u72 :: u73 :: u74 :: u75 :: u76 :: u77 :: u78 :: u79 :: u80 :: u81 :: u82 :: u83 :: u84 :: u85 :: u86 :: u87 :: u88 :: u89 :: u90 :: u91 :: u92 :: u93 :: u94 :: u95 :: u96 :: u97 :: u98 :: u99 :: u100 :: u101 :: u102 :: u103 :: u104 :: u105 :: u106 :: u107 :: u108 :: u109 :: u110 :: u111 :: u112 :: u113 :: u114 :: u115 :: u116 :: u117 :: u118 :: u119 :: u120 :: u121 :: u122 :: u123 :: u124 :: u125 :: u126 :: u127 :: u128 :: u129 :: u130 :: u131 :: u132 :: u133 :: u134 :: u135 :: u136 :: u137 :: u138 :: u139 :: u140 :: u141 :: u142 :: u143 :: u144 :: u145 :: u146 :: u147 :: u148 :: u149 :: u150 :: u151 :: u152 :: u153 :: u154 :: u155 :: u156 :: u157 :: u158 :: u159 :: u160 :: u161 :: u162 :: u163 :: u164 :: u165 :: u166 :: u167 :: u168 :: u169 :: u170 :: u171 :: u172 :: u173 :: u174 :: u175 :: u176 :: u177 :: u178 :: u179 :: u180 :: u181 :: u182 :: u183 :: u184 :: u185 :: u186 :: u187 :: u188 :: u189 :: u190 :: u191 :: u192 :: u193 :: u194 :: u195 :: u196 :: u197 :: u198 :: u199 :: u200 :: u201 :: u202 :: u203 :: u204 :: u205 :: u206 :: u207 :: u208 :: u209 :: u210 :: u211 :: u212 :: u213 :: u214 :: u215 :: u216 :: u217 :: u218 :: u219 :: u220 :: u221 :: u222 :: u223 :: u224 :: u225 :: u226 :: u227 :: u228 :: u229 :: u230 :: u231 :: u232 :: u233 :: u234 :: u235 :: u236 :: u237 :: u238 :: u239 :: u240 :: u241 :: u242 :: u243 :: u244 :: u245 :: u246 :: u247 :: u248 :: u249 :: u250 :: u251 :: u252 :: u253 :: u254 :: u255 :: u256 :: u257 :: u258 :: u259 :: u260 :: u261 :: u262 :: u263 :: u264 :: u265 :: u266 :: u267 :: u268 :: u269 :: u270 :: u271 :: u272 :: u273 :: u274 :: u275 :: u276 :: u277 :: u278 :: u279 :: u280 :: u281 :: u282 :: u283 :: u284 :: u285 :: u286 :: u287 :: u288 :: u289 :: u290 :: u291 :: u292 :: u293 :: u294 :: u295 :: u296 :: u297 :: u298 :: u299 :: u300 :: u301 :: u302 :: u303 :: u304 :: u305 :: u306 :: u307 :: u308 :: u309 :: u310 :: u311 :: u312 :: u313 :: u314 :: u315 :: u316 :: u317 :: u318 :: u319 :: u320 :: u321 :: u322 :: u323 :: u324 :: u325 :: u326 :: u327 :: u328 :: u329 :: u330 :: u331 :: u332 :: u333 :: u334 :: u335 :: u336 :: u337 :: u338 :: u339 :: u340 :: u341 :: u342 :: u343 :: u344 :: u345 :: u346 :: u347 :: u348 :: u349 :: u350 :: u351 :: u352 :: u353 :: u354 :: u355 :: u356 :: u357 :: u358 :: u359 :: u360 :: u361 :: u362 :: u363 :: u364 :: u365 :: u366 :: u367 :: u368 :: u369 :: u370 :: u371 :: u372 :: u373 :: u374 :: u375 :: u376 :: u377 :: u378 :: u379 :: u380 :: u381 :: u382 :: u383 :: u384 :: u385 :: u386 :: u387 :: u388 :: u389 :: u390 :: u391 :: u392 :: u393 :: u394 :: u395 :: u396 :: u397 :: u398 :: u399 :: u400 :: u401 :: u402 :: u403 :: u404 :: u405 :: u406 :: u407 :: u408 :: u409 :: u410 :: u411 :: u412 :: u413 :: u414 :: u415 :: u416 :: u417 :: u418 :: u419 :: u420 :: u421 :: u422 :: u423 :: u424 :: u425 :: u426 :: u427 :: u428 :: u429 :: u430 :: u431 :: u432 :: u433 :: u434 :: u435 :: u436 :: []).toArray, defers := [] } w := by
  have HQ := hidE hQ
  have HPN := hidE hpan
  have HT := hidE hT
  have HGM := hidE hgm
  have HK9 := hidE hk
  have HP := hidE hP
  have HM0 := hidE hM
  have HG4 := hidE g4
  clear hQ hT hgm hk hP hM g4 hpan
  unfold Try.f7 at hC
  simp [stm, lead] at hC
  subst hC
  go_wp2_with fail
  go_loopw [22] (fun i wr => ∃ q : Nat, q ≤ T.length ∧ i = .int .i64 q ∧ Hid (KeptB w wr (fun k => k = gm)) ∧ Hid (MapR wr gm (K ++ (T.map keyP).take q))) (fun i _ => T.length - (intOf i).toNat)
  case atStart => exact ⟨0, Nat.zero_le _, rfl, keptB_of_below (Below.refl _ _), hidE (by simpa using HM0.out)⟩
  case round =>
    obtain ⟨q, hq, rfl, HK, HM⟩ := hrel
    by_cases hql : q < T.length
    · have RT := rowS_kept HT.out.row HK.out (fun k hk e => HGM.out k hk e)
      obtain ⟨gl, offl, el, hcl, l1, l2, l3⟩ := rowOf_val cellsPn_len (rowG_of_S RT) q hql
      subst el
      have HROW : Hid (∀ i (hi : i < T.length) j, j < 5 → wr.cell? ⟨gl, offl + (i * 5 + j), none⟩ = (cellsPn T[i])[j]?) := fun i hi j hj => by
        obtain ⟨gl2, offl2, el2, hcl2, _⟩ := rowOf_val cellsPn_len (rowG_of_S RT) i hi
        cases el2
        exact hcl2 j hj
      obtain ⟨df1, df2, df3, df4, df5⟩ := due_facts HP.out HK9.out q hql
      have HSH := hidE (tbl_slices HT.out)
      obtain ⟨ap1, np1, cp1, hav1⟩ := HSH.out T[q] (List.getElem_mem hql)
      have KN := hidE (keys_next T q hql)
      have DF3 := hidE df3
      have g4 : wr.cell? ⟨ga, 4, none⟩ = some (.int .i64 up) := (kept_cell HK.out 4 lga nga).trans HG4.out
      have lga2 : ga < wr.heap.size := Nat.lt_of_lt_of_le lga HK.out.b0.size
      have HPE : Hid (T[q] = T[q]) := rfl
      have HCL := hidE hcl
      generalize hpp : T[q] = p at df1 df2 df3 df4 df5 hav1 KN DF3 HPE HCL
      have HPP := hidE hpp
      obtain ⟨x1, x2, x3, x4, x5, x6⟩ := p
      simp only at hav1 df2 df4 df5
      subst hav1
      have y0 : wr.cell? ⟨gl, offl + q * 5, none⟩ = some (.int .i64 x1) := HCL.out 0 (by omega)
      have y1 : wr.cell? ⟨gl, offl + q * 5 + 1, none⟩ = some (.int .i64 x2) := HCL.out 1 (by omega)
      have y2 : wr.cell? ⟨gl, offl + q * 5 + 2, none⟩ = some (.int .i64 x3) := HCL.out 2 (by omega)
      unfold maxLen at l2
      have HDF := hidE df1
      obtain ⟨w13, hw13⟩ : ∃ w13, w13 = wr := ⟨_, rfl⟩
      subst hw13
      clear hcl df1 df3 HCL RT hpp HPE
      go_wp2_with fail
      have dd : Below w13.heap.size w13 ({ w13 with drawn := w13.drawn + 1 } : World) := (Below.refl _ _).drew
      refine wp_region_last (fun w' => Below w13.heap.size w13 w') 19 (by kernel_rfl) ?_
      generalize ({ w13 with drawn := w13.drawn + 1 } : World) = wd at *
      have hS := dd
      have AL := hidE (dd.trans ((below_alloc wd (.cells #[.int .i64 0, .int .i64 0, .int .i64 0] 90)).mono dd.size))
      have AF := hidE (dd.trans ((below_alloc wd (.cells #[.int .i64 x1, .int .i64 x2, .int .i64 x3] 90)).mono dd.size))
      have ID := hidE (blk_alloc wd [.int .i64 x1, .int .i64 x2, .int .i64 x3] 90 (by simp))
      refine last_take (i := 0) (v := .slice (some ⟨gl, offl, none⟩) T.length lc) (L := #[true, false, false, false, false, false, false, false, false, false, false, false, false, false, false, false, false, false, false, false]) [2, 3, 4, 17, 19] rfl (by kernel_rfl) (by kernel_rfl) (by kernel_rfl) (by kernel_rfl) (by kernel_rfl) (fun c a w h => HPN.out c _ _ _ h) (Or.inl ⟨by kernel_rfl, fun wq hq => by go_simp⟩) hS (by kernel_rfl) ?_
      refine last_take (i := 1) (v := .int .i64 (q : Int)) (L := #[true, true, false, false, false, false, false, false, false, false, false, false, false, false, false, false, false, false, false, false]) [2, 3, 4, 17, 19] rfl (by kernel_rfl) (by kernel_rfl) (by kernel_rfl) (by kernel_rfl) (by kernel_rfl) (fun c a w h => HPN.out c _ _ _ h) (Or.inl ⟨by kernel_rfl, fun wq hq => by go_simp⟩) hS (by kernel_rfl) ?_
      refine last_take (i := 2) (v := .pointer (some ⟨gl, offl + q * 5, none⟩)) (L := #[true, true, true, false, false, false, false, false, false, false, false, false, false, false, false, false, false, false, false, false]) [3, 4, 17, 19] rfl (by kernel_rfl) (by kernel_rfl) (by kernel_rfl) (by kernel_rfl) (by kernel_rfl) (fun c a w h => HPN.out c _ _ _ h) (Or.inl ⟨by kernel_rfl, fun wq hq => by go_simp⟩) hS (by kernel_rfl) ?_
      refine last_take (i := 3) (v := .pointer (some ⟨gl, offl + q * 5, none⟩)) (L := #[true, true, true, true, false, false, false, false, false, false, false, false, false, false, false, false, false, false, false, false]) [4, 17, 19] rfl (by kernel_rfl) (by kernel_rfl) (by kernel_rfl) (by kernel_rfl) (by kernel_rfl) (fun c a w h => HPN.out c _ _ _ h) (Or.inl ⟨by kernel_rfl, fun wq hq => by go_simp⟩) hS (by kernel_rfl) ?_
      refine last_take (i := 4) (v := .int .i64 x1) (L := #[true, true, true, true, true, false, false, false, false, false, false, false, false, false, false, false, false, false, false, false]) [17, 19] rfl (by kernel_rfl) (by kernel_rfl) (by kernel_rfl) (by kernel_rfl) (by kernel_rfl) (fun c a w h => HPN.out c _ _ _ h) (Or.inl ⟨by kernel_rfl, fun wq hq => by have q9 := hq.cell (p := ⟨gl, offl + q * 5, none⟩) l3; rw [y0] at q9; go_simp⟩) hS (by kernel_rfl) ?_
      refine last_take (i := 5) (v := .slice (some ⟨gl, offl, none⟩) T.length lc) (L := #[true, true, true, true, true, true, false, false, false, false, false, false, false, false, false, false, false, false, false, false]) [7, 8, 9, 10, 17, 19] rfl (by kernel_rfl) (by kernel_rfl) (by kernel_rfl) (by kernel_rfl) (by kernel_rfl) (fun c a w h => HPN.out c _ _ _ h) (Or.inl ⟨by kernel_rfl, fun wq hq => by go_simp⟩) hS (by kernel_rfl) ?_
      refine last_take (i := 6) (v := .int .i64 (q : Int)) (L := #[true, true, true, true, true, true, true, false, false, false, false, false, false, false, false, false, false, false, false, false]) [7, 8, 9, 10, 17, 19] rfl (by kernel_rfl) (by kernel_rfl) (by kernel_rfl) (by kernel_rfl) (by kernel_rfl) (fun c a w h => HPN.out c _ _ _ h) (Or.inl ⟨by kernel_rfl, fun wq hq => by go_simp⟩) hS (by kernel_rfl) ?_
      refine last_take (i := 7) (v := .pointer (some ⟨gl, offl + q * 5, none⟩)) (L := #[true, true, true, true, true, true, true, true, false, false, false, false, false, false, false, false, false, false, false, false]) [8, 9, 10, 17, 19] rfl (by kernel_rfl) (by kernel_rfl) (by kernel_rfl) (by kernel_rfl) (by kernel_rfl) (fun c a w h => HPN.out c _ _ _ h) (Or.inl ⟨by kernel_rfl, fun wq hq => by go_simp⟩) hS (by kernel_rfl) ?_
      refine last_take (i := 8) (v := .pointer (some ⟨gl, offl + q * 5 + 1, none⟩)) (L := #[true, true, true, true, true, true, true, true, true, false, false, false, false, false, false, false, false, false, false, false]) [9, 10, 17, 19] rfl (by kernel_rfl) (by kernel_rfl) (by kernel_rfl) (by kernel_rfl) (by kernel_rfl) (fun c a w h => HPN.out c _ _ _ h) (Or.inl ⟨by kernel_rfl, fun wq hq => by go_simp⟩) hS (by kernel_rfl) ?_
      refine last_take (i := 9) (v := .pointer (some ⟨gl, offl + q * 5 + 1, none⟩)) (L := #[true, true, true, true, true, true, true, true, true, true, false, false, false, false, false, false, false, false, false, false]) [10, 17, 19] rfl (by kernel_rfl) (by kernel_rfl) (by kernel_rfl) (by kernel_rfl) (by kernel_rfl) (fun c a w h => HPN.out c _ _ _ h) (Or.inl ⟨by kernel_rfl, fun wq hq => by go_simp⟩) hS (by kernel_rfl) ?_
      refine last_take (i := 10) (v := .int .i64 x2) (L := #[true, true, true, true, true, true, true, true, true, true, true, false, false, false, false, false, false, false, false, false]) [17, 19] rfl (by kernel_rfl) (by kernel_rfl) (by kernel_rfl) (by kernel_rfl) (by kernel_rfl) (fun c a w h => HPN.out c _ _ _ h) (Or.inl ⟨by kernel_rfl, fun wq hq => by have q9 := hq.cell (p := ⟨gl, offl + q * 5 + 1, none⟩) l3; rw [y1] at q9; go_simp⟩) hS (by kernel_rfl) ?_
      refine last_take (i := 11) (v := .slice (some ⟨gl, offl, none⟩) T.length lc) (L := #[true, true, true, true, true, true, true, true, true, true, true, true, false, false, false, false, false, false, false, false]) [13, 14, 15, 16, 17, 19] rfl (by kernel_rfl) (by kernel_rfl) (by kernel_rfl) (by kernel_rfl) (by kernel_rfl) (fun c a w h => HPN.out c _ _ _ h) (Or.inl ⟨by kernel_rfl, fun wq hq => by go_simp⟩) hS (by kernel_rfl) ?_
      refine last_take (i := 12) (v := .int .i64 (q : Int)) (L := #[true, true, true, true, true, true, true, true, true, true, true, true, true, false, false, false, false, false, false, false]) [13, 14, 15, 16, 17, 19] rfl (by kernel_rfl) (by kernel_rfl) (by kernel_rfl) (by kernel_rfl) (by kernel_rfl) (fun c a w h => HPN.out c _ _ _ h) (Or.inl ⟨by kernel_rfl, fun wq hq => by go_simp⟩) hS (by kernel_rfl) ?_
      refine last_take (i := 13) (v := .pointer (some ⟨gl, offl + q * 5, none⟩)) (L := #[true, true, true, true, true, true, true, true, true, true, true, true, true, true, false, false, false, false, false, false]) [14, 15, 16, 17, 19] rfl (by kernel_rfl) (by kernel_rfl) (by kernel_rfl) (by kernel_rfl) (by kernel_rfl) (fun c a w h => HPN.out c _ _ _ h) (Or.inl ⟨by kernel_rfl, fun wq hq => by go_simp⟩) hS (by kernel_rfl) ?_
      refine last_take (i := 14) (v := .pointer (some ⟨gl, offl + q * 5 + 1, none⟩)) (L := #[true, true, true, true, true, true, true, true, true, true, true, true, true, true, true, false, false, false, false, false]) [15, 16, 17, 19] rfl (by kernel_rfl) (by kernel_rfl) (by kernel_rfl) (by kernel_rfl) (by kernel_rfl) (fun c a w h => HPN.out c _ _ _ h) (Or.inl ⟨by kernel_rfl, fun wq hq => by go_simp⟩) hS (by kernel_rfl) ?_
      refine last_take (i := 15) (v := .pointer (some ⟨gl, offl + q * 5 + 2, none⟩)) (L := #[true, true, true, true, true, true, true, true, true, true, true, true, true, true, true, true, false, false, false, false]) [16, 17, 19] rfl (by kernel_rfl) (by kernel_rfl) (by kernel_rfl) (by kernel_rfl) (by kernel_rfl) (fun c a w h => HPN.out c _ _ _ h) (Or.inl ⟨by kernel_rfl, fun wq hq => by go_simp⟩) hS (by kernel_rfl) ?_
      refine last_take (i := 16) (v := .int .i64 x3) (L := #[true, true, true, true, true, true, true, true, true, true, true, true, true, true, true, true, true, false, false, false]) [17, 19] rfl (by kernel_rfl) (by kernel_rfl) (by kernel_rfl) (by kernel_rfl) (by kernel_rfl) (fun c a w h => HPN.out c _ _ _ h) (Or.inl ⟨by kernel_rfl, fun wq hq => by have q9 := hq.cell (p := ⟨gl, offl + q * 5 + 2, none⟩) l3; rw [y2] at q9; go_simp⟩) hS (by kernel_rfl) ?_
      refine last_take (i := 17) (v := .agg #[.int .i64 x1, .int .i64 x2, .int .i64 x3]) (L := #[true, true, true, true, true, true, true, true, true, true, true, true, true, true, true, true, true, true, false, false]) [19] rfl (by kernel_rfl) (by kernel_rfl) (by kernel_rfl) (by kernel_rfl) (by kernel_rfl) (fun c a w h => HPN.out c _ _ _ h) (Or.inl ⟨by kernel_rfl, fun wq hq => by go_simp⟩) hS (by kernel_rfl) ?_
      refine last_go (i := 18) (L := #[true, true, true, true, true, true, true, true, true, true, true, true, true, true, true, true, true, true, true, false]) (by kernel_rfl) rfl (by kernel_rfl) (by kernel_rfl) ?_
      intro K' hK
      go_simp
      refine hK _ _ ⟨fun _ => AL.out, ?_⟩
      clear hK
      refine last_go (i := 19) (L := #[true, true, true, true, true, true, true, true, true, true, true, true, true, true, true, true, true, true, true, true]) (by kernel_rfl) rfl (by kernel_rfl) (by kernel_rfl) ?_
      intro K' hK
      go_simp
      refine hK _ _ ⟨fun h => absurd rfl h, ?_⟩
      clear hK
      refine last_done (by kernel_rfl) ?_ _
      generalize hgid : wd.heap.size = gid at *
      generalize wd.alloc (.cells #[.int .i64 x1, .int .i64 x2, .int .i64 x3] 90) = wi at *
      have HM1 := hidE (mapR_below HM.out AF.out)
      clear hgid dd hS AL
      go_wp2_with fail
      refine r35 _ _ (by kernel_rfl) _ _ _ _ _ _ _ _ _ _ _ _ _ _ _ _ _ _ _ _ _ _ _ _ _ _ _ _ _ _ _ _ _ _ _ _ _ _ _ _ _ _ _ _ _ _ _ _ _ _ _ _ _ _ _ _ _ _ _ _ _ _ _ _ _ _ _ _ _ _ _ _ _ _ _ _ _ _ _ _ _ _ _ _ _ _ _ _ _ _ _ _ _ _ _ _ _ _ _ _ _ _ _ _ _ _ _ _ _ _ _ _ _ _ _ _ _ _ _ _ _ _ _ _ _ _ _ _ _ _ _ _ _ _ _ _ _ _ _ _ _ _ _ _ _ _ _ _ _ _ _ _ _ _ _ _ _ _ _ _ _ _ _ _ _ _ _ _ _ _ _ _ _ _ _ _ _ _ _ _ _ _ _ _ _ _ _ _ _ _ _ _ _ _ _ _ _ _ _ _ _ _ _ _ _ _ _ _ _ _ _ _ _ _ _ _ _ _ _ _ _ _ _ _ _ _ _ _ _ _ _ _ _ _ _ _ _ _ _ _ _ _ _ _ _ _ _ _ _ _ _ _ _ _ _ _ _ _ _ _ _ _ _ _ _ _ _ _ _ _ _ _ _ _ _ _ _ _ _ _ _ _ _ _ _ _ _ _ _ _ _ _ _ _ _ _ _ _ _ _ _ _ _ _ _ _ _ _ _ _ _ _ _ _ _ _ _ _ _ _ _ _ _ _ _ _ _ _ _ _ _ _ _ _ _ _ _ _ _ _ _ _ _ _ _ _ _ _ _ _ _ _ _ _ _ _ _ _ _ _ _ _ _ _ _ _ _ _ _ _ _ _ _ _ _ _ _ _ _ _ _ _ _ _ _ _ _ _ _ _ _ _ _ _ _ _ _ _ _ _ _ _ _ _ _ _ _ _ _ _ _ _ _ _ _ _ _ _ _ _ _ _ _ _ _ _ _ _ _ _ _ T q gm ga gl offl lc gid size up ⟨x1, x2, x3, x4, x5, .slice ap1 np1 cp1⟩ wi hql l1 (by omega) HPP.out ⟨_, _, _, rfl⟩ (Nat.lt_of_lt_of_le l3 AF.out.size) (Nat.lt_of_lt_of_le lga2 AF.out.size) ID.out.lt (fun i hi j hj => (AF.out.cell (p := ⟨gl, offl + (i * 5 + j), none⟩) l3).trans (HROW.out i hi j hj)) HSH.out ((AF.out.cell (p := ⟨ga, 4, none⟩) lga2).trans g4) (ID.out.c 0 (by simp)) (ID.out.c 1 (by simp)) (ID.out.c 2 (by simp)) ⟨_, HM1.out, HDF.out⟩ df2 df4 df5 b3 b4 (fun r hr hrq => DF3.out r hr hrq) ?_
      intro v260 v261 v262 v263 v264 v265 v266 v267 v268 v269 v270 v271 v272 v273 v274 v275 v276 v277 v278 v279 v280 v281 v282 v283 v284 v285 v286 v287 v288 v289 v290 wj hbj
      have HM2 := hidE (mapR_below HM1.out hbj)
      obtain ⟨wu, hrun, hmu, hku⟩ := update3 HM2.out (x1, x2, x3) HDF.out
      have IDJ := blk_below ID.out hbj ID.out.lt
      have i0 : wj.cell? ⟨gid, 0, none⟩ = some (.int .i64 x1) := IDJ.c 0 (by simp)
      have i1 : wj.cell? ⟨gid, 1, none⟩ = some (.int .i64 x2) := IDJ.c 1 (by simp)
      have i2 : wj.cell? ⟨gid, 2, none⟩ = some (.int .i64 x3) := IDJ.c 2 (by simp)
      unfold k3 at hrun
      simp only at hrun
      have HKU := hidE (keptB_trans (keptB_trans HK.out (keptB_of_below (AF.out.trans (hbj.mono AF.out.size)))) hku)
      have HMU := hidE hmu
      clear hmu hku IDJ hbj HM2 HM1 AF ID HROW y0 y1 y2 HM HK
      go_wp2_with fail
      go_roundw
      case rel => exact ⟨q + 1, by omega, by go_num, HKU, hidE (by rw [KN.out, ← List.append_assoc]; exact HMU.out)⟩
      case measure => simp [intOf]; omega
    · have hqe : q = T.length := by omega
      subst hqe
      have e9 : (T.map keyP).take T.length = T.map keyP := by
        rw [List.take_of_length_le]
        simp
      rw [e9] at HM
      clear e9
      go_wp2_with fail
      exact HQ.out _ _ _ _ _ _ _ _ _ _ _ _ _ _ _ _ _ _ _ _ _ _ _ _ _ _ _ _ _ _ _ _ _ _ _ _ _ _ _ _ _ _ _ _ _ _ _ _ _ _ _ _ _ _ _ _ _ _ _ _ _ _ HK.out HM.out
end Go.Proofs.Ytoihjhhambgpfab

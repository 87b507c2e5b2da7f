/- The law PanesSays' range over the map of what was told, over this seat's translation, as a theorem of its own. Conditions: as named. -/
import Derived.Test.YtoihjhhambgpfabLawL5
namespace Go.Proofs.Ytoihjhhambgpfab
open Go.ChangeShapes Go.WideShapes Go.ChangeAt Go.RowKit
set_option linter.unusedVariables false
set_option linter.unusedSimpArgs false

/-- how many the range has not met -/
def leftIn (w : World) (gi gm : Nat) : Nat :=
  match w.heap[gm]?, w.heap[gi]? with
  | some (.map es _), some (.mapIter _ _ seen _) => (leftOf es seen).size
  | _, _ => 0
theorem leftIn_is {w : World} {gi gm : Nat} {es : Array MapEntry} {clock : Nat} {seen : Array Nat} (h : IterR w gi gm es clock seen) : leftIn w gi gm = (leftOf es seen).size := by
  unfold leftIn
  rw [h.mp, h.it]
theorem iterR_lt {w : World} {gi gm : Nat} {es : Array MapEntry} {clock : Nat} {seen : Array Nat} (h : IterR w gi gm es clock seen) : gm < w.heap.size ∧ gi < w.heap.size := ⟨(Array.getElem?_eq_some_iff.1 h.mp).1, (Array.getElem?_eq_some_iff.1 h.it).1⟩

set_option maxRecDepth 100000 in
set_option maxHeartbeats 4000000 in
theorem loop6 (Q : Exit → Act → World → Prop) (C : Code) (hC : stm 47 (Try.f7.body.getD .skip) = some C) (u0 u2 u3 u4 u5 u6 u7 u8 u9 u10 u12 u14 u15 u16 u17 u18 u19 u20 u21 u22 u23 u24 u25 u26 u27 u28 u29 u30 u31 u32 u33 u34 u35 u36 u37 u38 u39 u40 u41 u42 u43 u44 u45 u46 u47 u48 u49 u50 u51 u52 u53 u54 u55 u56 u57 u58 u59 u60 u61 u62 u63 u64 u65 u66 u67 u68 u69 u70 u71 u72 u73 u74 u75 u76 u77 u78 u79 u80 u81 u82 u83 u84 u85 u86 u87 u88 u89 u90 u91 u92 u93 u94 u95 u96 u97 u98 u99 u100 u101 u102 u103 u104 u105 u106 u107 u108 u109 u110 u111 u112 u113 u114 u115 u116 u117 u118 u119 u120 u121 u122 u123 u124 u125 u126 u127 u128 u129 u130 u131 u132 u133 u134 u135 u136 u137 u138 u139 u140 u141 u142 u143 u144 u145 u146 u147 u148 u149 u150 u151 u152 u153 u154 u155 u156 u157 u158 u159 u160 u161 u162 u163 u164 u165 u166 u167 u168 u169 u170 u171 u172 u173 u174 u175 u176 u177 u178 u179 u180 u181 u182 u183 u184 u185 u186 u187 u188 u189 u190 u191 u192 u193 u194 u195 u196 u197 u198 u199 u200 u201 u202 u203 u204 u205 u206 u207 u208 u209 u210 u211 u212 u213 u214 u215 u216 u217 u218 u219 u220 u221 u222 u223 u224 u225 u226 u227 u228 u229 u230 u231 u232 u233 u234 u235 u236 u237 u238 u239 u240 u241 u242 u243 u244 u245 u246 u247 u248 u249 u250 u251 u252 u253 u254 u255 u256 u257 u258 u259 u260 u261 u262 u263 u264 u265 u266 u267 u268 u269 u270 u271 u272 u273 u274 u275 u276 u277 u278 u279 u280 u281 u282 u283 u284 u285 u286 u287 u288 u289 u290 u291 u292 u293 u294 u295 u296 u297 u298 u299 u300 u301 u302 u303 u304 u305 u306 u307 u308 u309 u310 u311 u312 u313 u314 u315 u316 u317 u318 u319 u320 u321 u322 u323 u325 u326 u327 u328 u329 u330 u331 u332 u333 u334 u335 u336 u337 u338 u339 u340 u341 u342 u343 u344 u345 u346 u347 u348 u349 u350 u351 u352 u353 u354 u355 u356 u357 u358 u359 u360 u361 u362 u363 u364 u365 u366 u367 u368 u369 u370 u371 u372 u373 u374 u375 u376 u377 u378 u379 u380 u381 u382 u383 u384 u385 u386 u387 u388 u389 u390 u391 u392 u393 u394 u395 u396 u397 u398 u399 u400 u401 u402 u403 u404 u405 u406 u407 u408 u409 u410 u411 u412 u413 u414 u415 u416 u417 u418 u419 u420 u421 u422 u423 u424 u425 u426 u427 u428 u429 u430 u431 u432 u433 u434 u435 u436 : Value) (K : List K3) (ga gm gi clock0 : Nat) (es0 : Array MapEntry) (size dr : Int) (w : World)
    (hI : IterR w gi gm es0 clock0 #[]) (hE : MapE es0 clock0 K) (hne : gm ≠ gi) (lga : ga < w.heap.size) (n1 : ga ≠ gm) (n2 : ga ≠ gi) (g5 : w.cell? ⟨ga, 5, none⟩ = some (.int .i64 dr)) (b3 : 1 ≤ size) (b4 : size ≤ 1000) (hbd : ∀ k ∈ K, -1000 ≤ k.1 ∧ k.1 ≤ 9999)
    (hQ : ∀ (v26 v325 v326 v327 v328 v329 v330 v331 v332 v333 v334 v335 v336 v337 : Value) w' K', KeptB w w' (fun k => k = gm ∨ k = gi) → MapR w' gm K' → (∀ k, k ∈ K' ↔ (k ∈ K ∧ goneK size dr k = false)) → Q .normal { tmps := (u0 :: .int .i64 size :: u2 :: u3 :: u4 :: u5 :: u6 :: u7 :: u8 :: u9 :: u10 :: .map (some gm) :: u12 :: .pointer (some ⟨ga, 0, none⟩) :: u14 :: u15 :: u16 :: u17 :: u18 :: u19 :: u20 :: u21 :: u22 :: u23 :: u24 :: u25 :: v26 :: u27 :: u28 :: u29 :: u30 :: u31 :: u32 :: u33 :: u34 :: u35 :: u36 :: u37 :: u38 :: u39 :: u40 :: u41 :: u42 :: u43 :: u44 :: u45 :: u46 :: u47 :: u48 :: u49 :: u50 :: u51 :: u52 :: u53 :: u54 :: u55 :: u56 :: u57 :: u58 :: u59 :: u60 :: u61 :: u62 :: u63 :: u64 :: u65 :: u66 :: u67 :: u68 :: u69 :: u70 :: u71 :: u72 :: u73 :: u74 :: u75 :: u76 :: u77 :: u78 :: u79 :: u80 :: u81 :: u82 :: u83 :: u84 :: u85 :: u86 :: u87 :: u88 :: u89 :: u90 :: u91 :: u92 :: u93 :: u94 :: u95 :: u96 :: u97 :: u98 :: u99 :: u100 :: u101 :: u102 :: u103 :: u104 :: u105 :: u106 :: u107 :: u108 :: u109 :: u110 :: u111 :: u112 :: u113 :: u114 :: u115 :: u116 :: u117 :: u118 :: u119 :: u120 :: u121 :: u122 :: u123 :: u124 :: u125 :: u126 :: u127 :: u128 :: u129 :: u130 :: u131 :: u132 :: u133 :: u134 :: u135 :: u136 :: u137 :: u138 :: u139 :: u140 :: u141 :: u142 :: u143 :: u144 :: u145 :: u146 :: u147 :: u148 :: u149 :: u150 :: u151 :: u152 :: u153 :: u154 :: u155 :: u156 :: u157 :: u158 :: u159 :: u160 :: u161 :: u162 :: u163 :: u164 :: u165 :: u166 :: u167 :: u168 :: u169 :: u170 :: u171 :: u172 :: u173 :: u174 :: u175 :: u176 :: u177 :: u178 :: u179 :: u180 :: u181 :: u182 :: u183 :: u184 :: u185 :: u186 :: u187 :: u188 :: u189 :: u190 :: u191 :: u192 :: u193 :: u194 :: u195 :: u196 :: u197 :: u198 :: u199 :: u200 :: u201 :: u202 :: u203 :: u204 :: u205 :: u206 :: u207 :: u208 :: u209 :: u210 :: u211 :: u212 :: u213 :: u214 :: u215 :: u216 :: u217 :: u218 :: u219 :: u220 :: u221 :: u222 :: u223 :: u224 :: u225 :: u226 :: u227 :: u228 :: u229 :: u230 :: u231 :: u232 :: u233 :: u234 :: u235 :: u236 :: u237 :: u238 :: u239 :: u240 :: u241 :: u242 :: u243 :: u244 :: u245 :: u246 :: u247 :: u248 :: u249 :: u250 :: u251 :: u252 :: u253 :: u254 :: u255 :: u256 :: u257 :: u258 :: u259 :: u260 :: u261 :: u262 :: u263 :: u264 :: u265 :: u266 :: u267 :: u268 :: u269 :: u270 :: u271 :: u272 :: u273 :: u274 :: u275 :: u276 :: u277 :: u278 :: u279 :: u280 :: u281 :: u282 :: u283 :: u284 :: u285 :: u286 :: u287 :: u288 :: u289 :: u290 :: u291 :: u292 :: u293 :: u294 :: u295 :: u296 :: u297 :: u298 :: u299 :: u300 :: u301 :: u302 :: u303 :: u304 :: u305 :: u306 :: u307 :: u308 :: u309 :: u310 :: u311 :: u312 :: u313 :: u314 :: u315 :: u316 :: u317 :: u318 :: u319 :: u320 :: u321 :: u322 :: u323 :: .pointer (some ⟨gi, 0, none⟩) :: v325 :: v326 :: v327 :: v328 :: v329 :: v330 :: v331 :: v332 :: v333 :: v334 :: v335 :: v336 :: v337 :: u338 :: u339 :: u340 :: u341 :: u342 :: u343 :: u344 :: u345 :: u346 :: u347 :: u348 :: u349 :: u350 :: u351 :: u352 :: u353 :: u354 :: u355 :: u356 :: u357 :: u358 :: u359 :: u360 :: u361 :: u362 :: u363 :: u364 :: u365 :: u366 :: u367 :: u368 :: u369 :: u370 :: u371 :: u372 :: u373 :: u374 :: u375 :: u376 :: u377 :: u378 :: u379 :: u380 :: u381 :: u382 :: u383 :: u384 :: u385 :: u386 :: u387 :: u388 :: u389 :: u390 :: u391 :: u392 :: u393 :: u394 :: u395 :: u396 :: u397 :: u398 :: u399 :: u400 :: u401 :: u402 :: u403 :: u404 :: u405 :: u406 :: u407 :: u408 :: u409 :: u410 :: u411 :: u412 :: u413 :: u414 :: u415 :: u416 :: u417 :: u418 :: u419 :: u420 :: u421 :: u422 :: u423 :: u424 :: u425 :: u426 :: u427 :: u428 :: u429 :: u430 :: u431 :: u432 :: u433 :: u434 :: u435 :: u436 :: []).toArray, defers := [] } w') :
    Code.wp Try.prog C Q { tmps := (u0 :: .int .i64 size :: u2 :: u3 :: u4 :: u5 :: u6 :: u7 :: u8 :: u9 :: u10 :: .map (some gm) :: u12 :: .pointer (some ⟨ga, 0, none⟩) :: u14 :: u15 :: u16 :: u17 :: u18 :: u19 :: u20 :: u21 :: u22 :: u23 :: u24 :: u25 :: u26 :: u27 :: u28 :: u29 :: u30 :: u31 :: u32 :: u33 :: u34 :: u35 :: u36 :: u37 :: u38 :: u39 :: u40 :: u41 :: u42 :: u43 :: u44 :: u45 :: u46 :: u47 :: u48 :: u49 :: u50 :: u51 :: u52 :: u53 :: u54 :: u55 :: u56 :: u57 :: u58 :: u59 :: u60 :: u61 :: u62 :: u63 :: u64 :: u65 :: u66 :: u67 :: u68 :: u69 :: u70 :: u71 :: u72 :: u73 :: u74 :: u75 :: u76 :: u77 :: u78 :: u79 :: u80 :: u81 :: u82 :: u83 :: u84 :: u85 :: u86 :: u87 :: u88 :: u89 :: u90 :: u91 :: u92 :: u93 :: u94 :: u95 :: u96 :: u97 :: u98 :: u99 :: u100 :: u101 :: u102 :: u103 :: u104 :: u105 :: u106 :: u107 :: u108 :: u109 :: u110 :: u111 :: u112 :: u113 :: u114 :: u115 :: u116 :: u117 :: u118 :: u119 :: u120 :: u121 :: u122 :: u123 :: u124 :: u125 :: u126 :: u127 :: u128 :: u129 :: u130 :: u131 :: u132 :: u133 :: u134 :: u135 :: u136 :: u137 :: u138 :: u139 :: u140 :: u141 :: u142 :: u143 :: u144 :: u145 :: u146 :: u147 :: u148 :: u149 :: u150 :: u151 :: u152 :: u153 :: u154 :: u155 :: u156 :: u157 :: u158 :: u159 :: u160 :: u161 :: u162 :: u163 :: u164 :: u165 :: u166 :: u167 :: u168 :: u169 :: u170 :: u171 :: u172 :: u173 :: u174 :: u175 :: u176 :: u177 :: u178 :: u179 :: u180 :: u181 :: u182 :: u183 :: u184 :: u185 :: u186 :: u187 :: u188 :: u189 :: u190 :: u191 :: u192 :: u193 :: u194 :: u195 :: u196 :: u197 :: u198 :: u199 :: u200 :: u201 :: u202 :: u203 :: u204 :: u205 :: u206 :: u207 :: u208 :: u209 :: u210 :: u211 :: u212 :: u213 :: u214 :: u215 :: u216 :: u217 :: u218 :: u219 :: u220 :: u221 :: u222 :: u223 :: u224 :: u225 :: u226 :: u227 :: u228 :: u229 :: u230 :: u231 :: u232 :: u233 :: u234 :: u235 :: u236 :: u237 :: u238 :: u239 :: u240 :: u241 :: u242 :: u243 :: u244 :: u245 :: u246 :: u247 :: u248 :: u249 :: u250 :: u251 :: u252 :: u253 :: u254 :: u255 :: u256 :: u257 :: u258 :: u259 :: u260 :: u261 :: u262 :: u263 :: u264 :: u265 :: u266 :: u267 :: u268 :: u269 :: u270 :: u271 :: u272 :: u273 :: u274 :: u275 :: u276 :: u277 :: u278 :: u279 :: u280 :: u281 :: u282 :: u283 :: u284 :: u285 :: u286 :: u287 :: u288 :: u289 :: u290 :: u291 :: u292 :: u293 :: u294 :: u295 :: u296 :: u297 :: u298 :: u299 :: u300 :: u301 :: u302 :: u303 :: u304 :: u305 :: u306 :: u307 :: u308 :: u309 :: u310 :: u311 :: u312 :: u313 :: u314 :: u315 :: u316 :: u317 :: u318 :: u319 :: u320 :: u321 :: u322 :: u323 :: .pointer (some ⟨gi, 0, none⟩) :: u325 :: u326 :: u327 :: u328 :: u329 :: u330 :: u331 :: u332 :: u333 :: u334 :: u335 :: u336 :: u337 :: u338 :: u339 :: u340 :: u341 :: u342 :: u343 :: u344 :: u345 :: u346 :: u347 :: u348 :: u349 :: u350 :: u351 :: u352 :: u353 :: u354 :: u355 :: u356 :: u357 :: u358 :: u359 :: u360 :: u361 :: u362 :: u363 :: u364 :: u365 :: u366 :: u367 :: u368 :: u369 :: u370 :: u371 :: u372 :: u373 :: u374 :: u375 :: u376 :: u377 :: u378 :: u379 :: u380 :: u381 :: u382 :: u383 :: u384 :: u385 :: u386 :: u387 :: u388 :: u389 :: u390 :: u391 :: u392 :: u393 :: u394 :: u395 :: u396 :: u397 :: u398 :: u399 :: u400 :: u401 :: u402 :: u403 :: u404 :: u405 :: u406 :: u407 :: u408 :: u409 :: u410 :: u411 :: u412 :: u413 :: u414 :: u415 :: u416 :: u417 :: u418 :: u419 :: u420 :: u421 :: u422 :: u423 :: u424 :: u425 :: u426 :: u427 :: u428 :: u429 :: u430 :: u431 :: u432 :: u433 :: u434 :: u435 :: u436 :: []).toArray, defers := [] } w := by
  have HQ := hidE hQ
  have HI := hidE hI
  have HE := hidE (iter_start hE (goneK size dr))
  have HBD := hidE hbd
  have HG := hidE g5
  clear hQ hI hE hbd g5
  unfold Try.f7 at hC
  simp [stm, lead] at hC
  subst hC
  go_wp2_with fail
  go_loopw [26] (fun v wr => ∃ (es : Array MapEntry) (clock : Nat) (seen : Array Nat) (K1 : List K3), Hid (IterR wr gi gm es clock seen) ∧ Hid (IterE es clock seen K K1 (goneK size dr)) ∧ Hid (KeptB w wr (fun k => k = gm ∨ k = gi))) (fun _ wr => leftIn wr gi gm)
  case atStart => exact ⟨es0, clock0, #[], K, HI, HE, keptB_of_below (Below.refl _ _)⟩
  case round =>
    clear HI HE
    obtain ⟨es, clock, seen, K1, HI, HE, HK⟩ := hrel
    obtain ⟨w0, hw0⟩ : ∃ w0, w0 = wr := ⟨_, rfl⟩
    subst hw0
    have LI := hidE (leftIn_is HI.out)
    rcases next3 HI.out HE.out 0 with ⟨h0, hrun⟩ | ⟨e, he, w1, hb1, hh1, hrun⟩
    · have hr : ∀ ty, (Instr.next (.pointer (some ⟨gi, 0, none⟩)) false ty).run Try.prog w0 = .ok (.tuple #[.bool false]) w0 := fun ty => hrun
      have HL := hidE h0
      clear hrun h0
      go_wp2_with fail
      exact HQ.out _ _ _ _ _ _ _ _ _ _ _ _ _ _ _ K1 HK.out ⟨es, clock, HI.out.mp, HE.out.me⟩ (iter_done HE.out HL.out)
    · have hes := (mem_left he).1
      obtain ⟨k, hkK, hkey⟩ := entry_key HE.out.me hes
      have hval := HE.out.me.vs e hes
      have hlt := iterR_lt HI.out
      have IR1 : IterR w1 gi gm es clock seen := ⟨by rw [hh1]; exact HI.out.mp, by rw [hh1]; exact HI.out.it⟩
      have hl1 := iterR_lt IR1
      have KP := putO_kept w1 gi (.mapIter (some gm) clock (seen.push e.born) clock)
      have IR2 : IterR (putO w1 gi (.mapIter (some gm) clock (seen.push e.born) clock)) gi gm es clock (seen.push e.born) := ⟨(KP.block gm hl1.1 hne).trans IR1.mp, putO_at _ _ _ hl1.2⟩
      have hent := entry3 IR2 HE.out.me hes
      rw [hkey, hval] at hrun hent
      have K02 : KeptB w0 (putO w1 gi (.mapIter (some gm) clock (seen.push e.born) clock)) (fun k => k = gm ∨ k = gi) := keptB_trans (keptB_of_below hb1) (keptB_mono KP (fun k e => .inr e))
      have HK2 := hidE (keptB_trans HK.out K02)
      have LS := hidE (left_shrinks es seen e he)
      have LD := hidE (fun i => left_drop es seen e he i)
      have HE2 := hidE (fun (hd : goneK size dr k = false) => iter_keep HE.out hes hkey hd)
      have HD2 := hidE (fun (hd : goneK size dr k = true) i hi => iter_drop HE.out hes hkey hd (i := i) hi)
      have hbk := HBD.out k (HE.out.sub k hkK)
      have ME := hidE HE.out.me
      generalize hwn : putO w1 gi (.mapIter (some gm) clock (seen.push e.born) clock) = wn at *
      have hr : ∀ ty, (Instr.next (.pointer (some ⟨gi, 0, none⟩)) false ty).run Try.prog w0 = .ok (.tuple #[.bool true, k3 k, .bool true]) wn := fun ty => hrun
      obtain ⟨x1, x2, x3⟩ := k
      unfold k3 at hr hent
      simp only at hr hent hbk
      have al := below_alloc wn (.cells #[.int .i64 x1, .int .i64 x2, .int .i64 x3] 90)
      have IRA := hidE (iterR_kept (bad := fun _ => False) IR2 (keptB_of_below al) id id)
      have HKA := hidE (keptB_trans HK2.out (keptB_of_below al))
      have gac : (wn.alloc (.cells #[.int .i64 x1, .int .i64 x2, .int .i64 x3] 90)).cell? ⟨ga, 5, none⟩ = some (.int .i64 dr) := (kept_cell HKA.out 5 lga (fun e => by omega)).trans HG.out
      have lgn : ga < wn.heap.size := Nat.lt_of_lt_of_le lga HK2.out.b0.size
      have HKK := hidE hkK
      generalize hg9 : decide (x1 + size ≤ dr) = b9 at *
      have HG9 : Hid (goneK size dr (x1, x2, x3) = b9) := hg9
      clear hrun hes hkey hval hlt IR1 hl1 KP IR2 K02 hb1 hh1 he hwn al HK HI HE HK2 hkK
      cases b9
      · go_wp2_with fail
        go_roundw
        case rel => exact ⟨es, clock, _, K1, IRA, hidE (HE2.out HG9.out), HKA⟩
        case measure =>
          rw [leftIn_is IRA.out, LI.out]
          exact LS.out
      · obtain ⟨i, hik, hdel⟩ := delete3 IRA.out.mp ME.out (x1, x2, x3) HKK.out 0
        have hd : ∀ ty, (Builtin.delete_ #[87, 90] ty #[.map (some gm), .agg #[.int .i64 x1, .int .i64 x2, .int .i64 x3]]).run Try.prog (wn.alloc (.cells #[.int .i64 x1, .int .i64 x2, .int .i64 x3] 90)) = .ok (.tuple #[]) (putO (wn.alloc (.cells #[.int .i64 x1, .int .i64 x2, .int .i64 x3] 90)) gm (.map (es.eraseIdxIfInBounds i) clock)) := fun ty => hdel
        have KP := putO_kept (wn.alloc (.cells #[.int .i64 x1, .int .i64 x2, .int .i64 x3] 90)) gm (.map (es.eraseIdxIfInBounds i) clock)
        have lt9 := iterR_lt IRA.out
        have IRD := hidE (IterR.mk (putO_at _ _ (.map (es.eraseIdxIfInBounds i) clock) lt9.1) ((KP.block gi lt9.2 (fun e => hne e.symm)).trans IRA.out.it))
        have HKD := hidE (keptB_trans HKA.out (keptB_mono KP (fun k e => .inl e)))
        have HIE := hidE (HD2.out HG9.out i hik)
        have LDI := hidE (LD.out i)
        clear hdel KP lt9 HD2 HE2 LD LS hik
        go_wp2_with fail
        go_roundw
        case rel => exact ⟨_, clock, _, _, IRD, HIE, HKD⟩
        case measure =>
          rw [leftIn_is IRD.out, LI.out]
          exact LDI.out
end Go.Proofs.Ytoihjhhambgpfab

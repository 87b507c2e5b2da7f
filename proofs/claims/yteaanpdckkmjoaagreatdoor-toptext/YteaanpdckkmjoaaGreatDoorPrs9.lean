/- A parser's row where something is wrong, its deeper at each of the functions that it is handed, and its isNull, over this seat's translation. Conditions: what the contracts of those functions say. -/
import Derived.Test.YteaanpdckkmjoaaGreatDoorPrs8
namespace Go.Proofs.YteaanpdckkmjoaaGreatDoor
open Go.ChangeShapes Go.WideShapes Go.ChangeAt Go.RowKit
set_option linter.unusedVariables false
set_option linter.unusedSimpArgs false

theorem errX_of {w w' : World} {gp gm : Nat} {d e : Int} {v : Value} {wv : Value} (hk : KeptB w w' (fun q => q = gp)) (h : PX w' gp gm wv [] d e) (hs : isSl v = true := by rfl) : ErrX w w' gp gm d e (.returned v) := ⟨hk, v, wv, rfl, hs, h⟩
theorem pxr_err {w w' : World} {gp gm : Nat} {d c : Int} {v : Value} {wv : Value} (hk : KeptB w w' (fun q => q = gp)) (hc : ErC c v) (h : PX w' gp gm wv [] d c) : PXR w w' gp gm d (.error c) (.returned v) := ⟨hk, v, wv, rfl, hc, h⟩
theorem pxr_ok {w w' : World} {gp gm : Nat} {d : Int} {v : Value} {wv : Value} {l : List Nd} {ws : Ws} (hk : KeptB w w' (fun q => q = gp)) (hn : NdsR w' (gp + 1) v l) (h : PX w' gp gm wv ws d 0) : PXR w w' gp gm d (.ok (l, ws)) (.returned v) := ⟨hk, v, wv, rfl, hn, h⟩
theorem pxr_kept {w0 w w' : World} {gp gm : Nat} {d : Int} {r : PR} {e : Ending} (hk : KeptB w0 w (fun q => q = gp)) (h : PXR w w' gp gm d r e) : PXR w0 w' gp gm d r e := ⟨keptB_trans hk h.1, h.2⟩
/-- a store of how deep it is -/
theorem px_deep {w : World} {gp gm : Nat} {wv : Value} {ws : Ws} {d e : Int} (h : PX w gp gm wv ws d e) (d' : Int) : PX (w.setCell ⟨gp, 2, none⟩ (.int .i64 d')) gp gm wv ws d' e ∧ KeptB w (w.setCell ⟨gp, 2, none⟩ (.int .i64 d')) (fun q => q = gp) := by
  have hb := blk_set h.ps.bd 2 (.int .i64 d') (by simp)
  have h9 := ps_set h.ps 2 (.int .i64 d') (d' := d') (e' := e) (by simpa using hb) h.ps.row h.ps.far h.ps.e0 h.ps.few
  exact ⟨px_of h h9.2 h9.1 (fun x hx => hx), h9.2⟩
set_option maxRecDepth 100000 in
set_option maxHeartbeats 1000000 in
theorem rowErr_ps_and (gp gm : Nat) (d e rank : Int) (he : e ≠ 0) (HE : ∀ wv w, PX w gp gm wv [] d e → Calls Tryz.prog 81 #[.pointer (some ⟨gp, 0, none⟩)] w fun r w' => ErrX w w' gp gm d e r)
    (wv : Value) (w : World) (h : PX w gp gm wv [] d e) :
    Calls Tryz.prog 80 #[.pointer (some ⟨gp, 0, none⟩), .int .i64 rank, .func (.func 81) #[.pointer (some ⟨gp, 0, none⟩)] #[]] w fun r w' => ErrX w w' gp gm d e r := by
  have H1 := hidE (HE wv w h)
  have HH := hidE he
  clear h HE he
  go_enter Tryz.func80, Tryz.ntmps80
  go_wp2_with fail
  refine H1.out.mono ?_
  rintro r w1 ⟨hk1, v1, wv1, rfl, hs1, hp1⟩
  have S1 := hidE hs1
  have K1 := hidE hk1
  have P1 : Hid (∃ wv, PX w1 gp gm wv [] d e) := ⟨wv1, hp1⟩
  clear hk1 hp1 hs1 H1
  go_wp2_with fail
  go_loopw [7] (fun v wr => Hid (isSl v = true) ∧ Hid (KeptB w wr (fun q => q = gp)) ∧ Hid (∃ wv, PX wr gp gm wv [] d e)) (fun _ wr => 0)
  case atStart => exact ⟨S1, K1, P1⟩
  case round =>
    clear K1 P1 S1
    obtain ⟨HSL, HK, HS⟩ := hrel
    obtain ⟨wv9, hp⟩ := HS.out
    have TS := takeSign_any gp gm rank wv9 [] d e wr hp.ps
    unfold TakeSR at TS
    have e0 : sgV sg0 = .agg #[.int .i64 0, .int .i64 0, .bool false, .bool false] := rfl
    have e1 : tkS rank [] = none := rfl
    rw [e1, e0] at TS
    have TSH := hidE TS
    have HP := hidE hp
    clear TS e0 e1 hp HS
    go_wp2_with fail
    refine TSH.out.mono ?_
    rintro r w2 ⟨rfl, hk2, hp2⟩
    have K2 := hidE (keptB_trans HK.out hk2)
    have P2 := hidE (px_err HP.out hk2 hp2)
    have BA := hidE (below_alloc w2 (.cells #[.int .i64 0, .int .i64 0, .bool false, .bool false] 96))
    clear hk2 hp2 TSH
    go_wp2_with fail
    go_ret
    exact errX_of (keptB_trans K2.out (keptB_of_below BA.out)) (px_below P2.out BA.out) HSL.out
set_option maxRecDepth 100000 in
set_option maxHeartbeats 1000000 in
theorem rowErr_ps_not (gp gm : Nat) (d e rank : Int) (he : e ≠ 0) (HE : ∀ wv w, PX w gp gm wv [] d e → Calls Tryz.prog 100 #[.pointer (some ⟨gp, 0, none⟩)] w fun r w' => ErrX w w' gp gm d e r)
    (wv : Value) (w : World) (h : PX w gp gm wv [] d e) :
    Calls Tryz.prog 80 #[.pointer (some ⟨gp, 0, none⟩), .int .i64 rank, .func (.func 100) #[.pointer (some ⟨gp, 0, none⟩)] #[]] w fun r w' => ErrX w w' gp gm d e r := by
  have H1 := hidE (HE wv w h)
  have HH := hidE he
  clear h HE he
  go_enter Tryz.func80, Tryz.ntmps80
  go_wp2_with fail
  refine H1.out.mono ?_
  rintro r w1 ⟨hk1, v1, wv1, rfl, hs1, hp1⟩
  have S1 := hidE hs1
  have K1 := hidE hk1
  have P1 : Hid (∃ wv, PX w1 gp gm wv [] d e) := ⟨wv1, hp1⟩
  clear hk1 hp1 hs1 H1
  go_wp2_with fail
  go_loopw [7] (fun v wr => Hid (isSl v = true) ∧ Hid (KeptB w wr (fun q => q = gp)) ∧ Hid (∃ wv, PX wr gp gm wv [] d e)) (fun _ wr => 0)
  case atStart => exact ⟨S1, K1, P1⟩
  case round =>
    clear K1 P1 S1
    obtain ⟨HSL, HK, HS⟩ := hrel
    obtain ⟨wv9, hp⟩ := HS.out
    have TS := takeSign_any gp gm rank wv9 [] d e wr hp.ps
    unfold TakeSR at TS
    have e0 : sgV sg0 = .agg #[.int .i64 0, .int .i64 0, .bool false, .bool false] := rfl
    have e1 : tkS rank [] = none := rfl
    rw [e1, e0] at TS
    have TSH := hidE TS
    have HP := hidE hp
    clear TS e0 e1 hp HS
    go_wp2_with fail
    refine TSH.out.mono ?_
    rintro r w2 ⟨rfl, hk2, hp2⟩
    have K2 := hidE (keptB_trans HK.out hk2)
    have P2 := hidE (px_err HP.out hk2 hp2)
    have BA := hidE (below_alloc w2 (.cells #[.int .i64 0, .int .i64 0, .bool false, .bool false] 96))
    clear hk2 hp2 TSH
    go_wp2_with fail
    go_ret
    exact errX_of (keptB_trans K2.out (keptB_of_below BA.out)) (px_below P2.out BA.out) HSL.out
set_option maxRecDepth 100000 in
set_option maxHeartbeats 1000000 in
theorem rowErr_ps_product (gp gm : Nat) (d e rank : Int) (he : e ≠ 0) (HE : ∀ wv w, PX w gp gm wv [] d e → Calls Tryz.prog 133 #[.pointer (some ⟨gp, 0, none⟩)] w fun r w' => ErrX w w' gp gm d e r)
    (wv : Value) (w : World) (h : PX w gp gm wv [] d e) :
    Calls Tryz.prog 80 #[.pointer (some ⟨gp, 0, none⟩), .int .i64 rank, .func (.func 133) #[.pointer (some ⟨gp, 0, none⟩)] #[]] w fun r w' => ErrX w w' gp gm d e r := by
  have H1 := hidE (HE wv w h)
  have HH := hidE he
  clear h HE he
  go_enter Tryz.func80, Tryz.ntmps80
  go_wp2_with fail
  refine H1.out.mono ?_
  rintro r w1 ⟨hk1, v1, wv1, rfl, hs1, hp1⟩
  have S1 := hidE hs1
  have K1 := hidE hk1
  have P1 : Hid (∃ wv, PX w1 gp gm wv [] d e) := ⟨wv1, hp1⟩
  clear hk1 hp1 hs1 H1
  go_wp2_with fail
  go_loopw [7] (fun v wr => Hid (isSl v = true) ∧ Hid (KeptB w wr (fun q => q = gp)) ∧ Hid (∃ wv, PX wr gp gm wv [] d e)) (fun _ wr => 0)
  case atStart => exact ⟨S1, K1, P1⟩
  case round =>
    clear K1 P1 S1
    obtain ⟨HSL, HK, HS⟩ := hrel
    obtain ⟨wv9, hp⟩ := HS.out
    have TS := takeSign_any gp gm rank wv9 [] d e wr hp.ps
    unfold TakeSR at TS
    have e0 : sgV sg0 = .agg #[.int .i64 0, .int .i64 0, .bool false, .bool false] := rfl
    have e1 : tkS rank [] = none := rfl
    rw [e1, e0] at TS
    have TSH := hidE TS
    have HP := hidE hp
    clear TS e0 e1 hp HS
    go_wp2_with fail
    refine TSH.out.mono ?_
    rintro r w2 ⟨rfl, hk2, hp2⟩
    have K2 := hidE (keptB_trans HK.out hk2)
    have P2 := hidE (px_err HP.out hk2 hp2)
    have BA := hidE (below_alloc w2 (.cells #[.int .i64 0, .int .i64 0, .bool false, .bool false] 96))
    clear hk2 hp2 TSH
    go_wp2_with fail
    go_ret
    exact errX_of (keptB_trans K2.out (keptB_of_below BA.out)) (px_below P2.out BA.out) HSL.out
set_option maxRecDepth 100000 in
set_option maxHeartbeats 1000000 in
theorem rowErr_ps_unary (gp gm : Nat) (d e rank : Int) (he : e ≠ 0) (HE : ∀ wv w, PX w gp gm wv [] d e → Calls Tryz.prog 137 #[.pointer (some ⟨gp, 0, none⟩)] w fun r w' => ErrX w w' gp gm d e r)
    (wv : Value) (w : World) (h : PX w gp gm wv [] d e) :
    Calls Tryz.prog 80 #[.pointer (some ⟨gp, 0, none⟩), .int .i64 rank, .func (.func 137) #[.pointer (some ⟨gp, 0, none⟩)] #[]] w fun r w' => ErrX w w' gp gm d e r := by
  have H1 := hidE (HE wv w h)
  have HH := hidE he
  clear h HE he
  go_enter Tryz.func80, Tryz.ntmps80
  go_wp2_with fail
  refine H1.out.mono ?_
  rintro r w1 ⟨hk1, v1, wv1, rfl, hs1, hp1⟩
  have S1 := hidE hs1
  have K1 := hidE hk1
  have P1 : Hid (∃ wv, PX w1 gp gm wv [] d e) := ⟨wv1, hp1⟩
  clear hk1 hp1 hs1 H1
  go_wp2_with fail
  go_loopw [7] (fun v wr => Hid (isSl v = true) ∧ Hid (KeptB w wr (fun q => q = gp)) ∧ Hid (∃ wv, PX wr gp gm wv [] d e)) (fun _ wr => 0)
  case atStart => exact ⟨S1, K1, P1⟩
  case round =>
    clear K1 P1 S1
    obtain ⟨HSL, HK, HS⟩ := hrel
    obtain ⟨wv9, hp⟩ := HS.out
    have TS := takeSign_any gp gm rank wv9 [] d e wr hp.ps
    unfold TakeSR at TS
    have e0 : sgV sg0 = .agg #[.int .i64 0, .int .i64 0, .bool false, .bool false] := rfl
    have e1 : tkS rank [] = none := rfl
    rw [e1, e0] at TS
    have TSH := hidE TS
    have HP := hidE hp
    clear TS e0 e1 hp HS
    go_wp2_with fail
    refine TSH.out.mono ?_
    rintro r w2 ⟨rfl, hk2, hp2⟩
    have K2 := hidE (keptB_trans HK.out hk2)
    have P2 := hidE (px_err HP.out hk2 hp2)
    have BA := hidE (below_alloc w2 (.cells #[.int .i64 0, .int .i64 0, .bool false, .bool false] 96))
    clear hk2 hp2 TSH
    go_wp2_with fail
    go_ret
    exact errX_of (keptB_trans K2.out (keptB_of_below BA.out)) (px_below P2.out BA.out) HSL.out
set_option maxRecDepth 100000 in
theorem deeper12_ps_not (gp gm : Nat) (wv : Value) (ws : Ws) (w : World) (h : PX w gp gm wv ws 12 0) :
    Calls Tryz.prog 117 #[.pointer (some ⟨gp, 0, none⟩), .func (.func 100) #[.pointer (some ⟨gp, 0, none⟩)] #[]] w fun r w' => PXR w w' gp gm 12 (.error 2) r := by
  have c2 : w.cell? ⟨gp, 2, none⟩ = some (.int .i64 12) := h.ps.bd.c 2 (by simp)
  have FL := hidE (fail_any gp gm 2 (by decide) wv ws 12 0 w h.ps)
  have HP := hidE h
  clear h
  go_enter Tryz.func117, Tryz.ntmps117
  go_wp2_with fail
  refine FL.out.mono ?_
  rintro r w1 ⟨rfl, hk, hp⟩
  have K1 := hidE hk
  have P1 := hidE (px_err HP.out hk hp)
  clear hk hp FL
  go_wp2_with fail
  go_ret
  exact pxr_err K1.out ⟨by decide, rfl⟩ P1.out
set_option maxRecDepth 100000 in
set_option maxHeartbeats 1000000 in
theorem deeperI_ps_not (T : PR) (gp gm : Nat) (wv : Value) (ws : Ws) (d : Int) (hd0 : 0 ≤ d) (hd : d < 12) (w : World) (h : PX w gp gm wv ws d 0)
    (HI : ∀ w, PX w gp gm wv ws (d + 1) 0 → Calls Tryz.prog 100 #[.pointer (some ⟨gp, 0, none⟩)] w fun r w' => PXR w w' gp gm (d + 1) T r) :
    Calls Tryz.prog 117 #[.pointer (some ⟨gp, 0, none⟩), .func (.func 100) #[.pointer (some ⟨gp, 0, none⟩)] #[]] w fun r w' => PXR w w' gp gm d T r := by
  have c2 : w.cell? ⟨gp, 2, none⟩ = some (.int .i64 d) := h.ps.bd.c 2 (by simp)
  have f2 := h.ps.bd.fz 2
  have d12 : (d == 12) = false := by simp; omega
  have SD := px_deep h (d + 1)
  have K0 := hidE SD.2
  have IN := hidE (HI _ SD.1)
  clear h SD HI
  go_enter Tryz.func117, Tryz.ntmps117
  go_wp2_with fail
  refine IN.out.mono ?_
  rintro r w1 ⟨hk, hr⟩
  have K1 := hidE (keptB_trans K0.out hk)
  have hst : ∃ v, r = .returned v ∧ (∃ wv1 ws1 e1, PX w1 gp gm wv1 ws1 (d + 1) e1) ∧ ∀ w2, (∀ wv1 ws1 e1, PX w1 gp gm wv1 ws1 (d + 1) e1 → PX w2 gp gm wv1 ws1 d e1) → KeptB w1 w2 (fun q => q = gp) → PXR w w2 gp gm d T (.returned v) := by
    cases T with
    | error c =>
      obtain ⟨v, wv1, e9, hc, hp⟩ := hr
      exact ⟨v, e9, ⟨_, _, _, hp⟩, fun w2 hpx hk2 => pxr_err (keptB_trans K1.out hk2) hc (hpx _ _ _ hp)⟩
    | ok p =>
      obtain ⟨v, wv1, e9, hn, hp⟩ := hr
      exact ⟨v, e9, ⟨_, _, _, hp⟩, fun w2 hpx hk2 => ⟨keptB_trans K1.out hk2, v, wv1, rfl, nds_kept hn hk2 (fun q e => by omega), hpx _ _ _ hp⟩⟩
  obtain ⟨v, rfl, ⟨wv1, ws1, e1, hp⟩, hfin⟩ := hst
  have c3 : w1.cell? ⟨gp, 2, none⟩ = some (.int .i64 (d + 1)) := hp.ps.bd.c 2 (by simp)
  have f3 := hp.ps.bd.fz 2
  have FIN := hidE hfin
  have HP1 := hidE hp
  have es : Hid (d + 1 - 1 = d) := by show _ = _; omega
  have FX : Hid (∀ w2, w2 = w1.setCell ⟨gp, 2, none⟩ (.int .i64 (d + 1 - 1)) → PXR w w2 gp gm d T (.returned v)) := fun w2 e2 => by
    subst e2
    rw [es.out]
    exact hfin _ (fun wv1 ws1 e1 hp => (px_deep hp _).1) (px_deep hp _).2
  clear hk hr hp hfin IN FIN
  go_wp2_with fail
  go_ret
  first
    | exact FX.out _ rfl
    | (have h9 := FX.out _ rfl; rw [es.out] at h9; exact h9)
theorem deeper_ps_not (inner : Ws → Nat → PR) (gp gm : Nat) (wv : Value) (ws : Ws) (d : Nat) (hd : d ≤ 12) (w : World) (h : PX w gp gm wv ws (d : Int) 0) (hT : deepP inner ws d ≠ .error 99)
    (HI : d < 12 → ∀ w, PX w gp gm wv ws ((d + 1 : Nat) : Int) 0 → inner ws (d + 1) ≠ .error 99 → Calls Tryz.prog 100 #[.pointer (some ⟨gp, 0, none⟩)] w fun r w' => PXR w w' gp gm ((d + 1 : Nat) : Int) (inner ws (d + 1)) r) :
    Calls Tryz.prog 117 #[.pointer (some ⟨gp, 0, none⟩), .func (.func 100) #[.pointer (some ⟨gp, 0, none⟩)] #[]] w fun r w' => PXR w w' gp gm (d : Int) (deepP inner ws d) r := by
  by_cases h12 : d = 12
  · subst h12
    have e : deepP inner ws 12 = .error 2 := by unfold deepP; rw [if_pos rfl]
    rw [e]
    exact deeper12_ps_not gp gm wv ws w h
  · have e : deepP inner ws d = inner ws (d + 1) := by unfold deepP; rw [if_neg h12]
    rw [e] at hT ⊢
    exact deeperI_ps_not (inner ws (d + 1)) gp gm wv ws (d : Int) (by omega) (by omega) w h (fun w hp => HI (by omega) w hp hT)
set_option maxRecDepth 100000 in
theorem deeper12_ps_unary (gp gm : Nat) (wv : Value) (ws : Ws) (w : World) (h : PX w gp gm wv ws 12 0) :
    Calls Tryz.prog 117 #[.pointer (some ⟨gp, 0, none⟩), .func (.func 137) #[.pointer (some ⟨gp, 0, none⟩)] #[]] w fun r w' => PXR w w' gp gm 12 (.error 2) r := by
  have c2 : w.cell? ⟨gp, 2, none⟩ = some (.int .i64 12) := h.ps.bd.c 2 (by simp)
  have FL := hidE (fail_any gp gm 2 (by decide) wv ws 12 0 w h.ps)
  have HP := hidE h
  clear h
  go_enter Tryz.func117, Tryz.ntmps117
  go_wp2_with fail
  refine FL.out.mono ?_
  rintro r w1 ⟨rfl, hk, hp⟩
  have K1 := hidE hk
  have P1 := hidE (px_err HP.out hk hp)
  clear hk hp FL
  go_wp2_with fail
  go_ret
  exact pxr_err K1.out ⟨by decide, rfl⟩ P1.out
set_option maxRecDepth 100000 in
set_option maxHeartbeats 1000000 in
theorem deeperI_ps_unary (T : PR) (gp gm : Nat) (wv : Value) (ws : Ws) (d : Int) (hd0 : 0 ≤ d) (hd : d < 12) (w : World) (h : PX w gp gm wv ws d 0)
    (HI : ∀ w, PX w gp gm wv ws (d + 1) 0 → Calls Tryz.prog 137 #[.pointer (some ⟨gp, 0, none⟩)] w fun r w' => PXR w w' gp gm (d + 1) T r) :
    Calls Tryz.prog 117 #[.pointer (some ⟨gp, 0, none⟩), .func (.func 137) #[.pointer (some ⟨gp, 0, none⟩)] #[]] w fun r w' => PXR w w' gp gm d T r := by
  have c2 : w.cell? ⟨gp, 2, none⟩ = some (.int .i64 d) := h.ps.bd.c 2 (by simp)
  have f2 := h.ps.bd.fz 2
  have d12 : (d == 12) = false := by simp; omega
  have SD := px_deep h (d + 1)
  have K0 := hidE SD.2
  have IN := hidE (HI _ SD.1)
  clear h SD HI
  go_enter Tryz.func117, Tryz.ntmps117
  go_wp2_with fail
  refine IN.out.mono ?_
  rintro r w1 ⟨hk, hr⟩
  have K1 := hidE (keptB_trans K0.out hk)
  have hst : ∃ v, r = .returned v ∧ (∃ wv1 ws1 e1, PX w1 gp gm wv1 ws1 (d + 1) e1) ∧ ∀ w2, (∀ wv1 ws1 e1, PX w1 gp gm wv1 ws1 (d + 1) e1 → PX w2 gp gm wv1 ws1 d e1) → KeptB w1 w2 (fun q => q = gp) → PXR w w2 gp gm d T (.returned v) := by
    cases T with
    | error c =>
      obtain ⟨v, wv1, e9, hc, hp⟩ := hr
      exact ⟨v, e9, ⟨_, _, _, hp⟩, fun w2 hpx hk2 => pxr_err (keptB_trans K1.out hk2) hc (hpx _ _ _ hp)⟩
    | ok p =>
      obtain ⟨v, wv1, e9, hn, hp⟩ := hr
      exact ⟨v, e9, ⟨_, _, _, hp⟩, fun w2 hpx hk2 => ⟨keptB_trans K1.out hk2, v, wv1, rfl, nds_kept hn hk2 (fun q e => by omega), hpx _ _ _ hp⟩⟩
  obtain ⟨v, rfl, ⟨wv1, ws1, e1, hp⟩, hfin⟩ := hst
  have c3 : w1.cell? ⟨gp, 2, none⟩ = some (.int .i64 (d + 1)) := hp.ps.bd.c 2 (by simp)
  have f3 := hp.ps.bd.fz 2
  have FIN := hidE hfin
  have HP1 := hidE hp
  have es : Hid (d + 1 - 1 = d) := by show _ = _; omega
  have FX : Hid (∀ w2, w2 = w1.setCell ⟨gp, 2, none⟩ (.int .i64 (d + 1 - 1)) → PXR w w2 gp gm d T (.returned v)) := fun w2 e2 => by
    subst e2
    rw [es.out]
    exact hfin _ (fun wv1 ws1 e1 hp => (px_deep hp _).1) (px_deep hp _).2
  clear hk hr hp hfin IN FIN
  go_wp2_with fail
  go_ret
  first
    | exact FX.out _ rfl
    | (have h9 := FX.out _ rfl; rw [es.out] at h9; exact h9)
theorem deeper_ps_unary (inner : Ws → Nat → PR) (gp gm : Nat) (wv : Value) (ws : Ws) (d : Nat) (hd : d ≤ 12) (w : World) (h : PX w gp gm wv ws (d : Int) 0) (hT : deepP inner ws d ≠ .error 99)
    (HI : d < 12 → ∀ w, PX w gp gm wv ws ((d + 1 : Nat) : Int) 0 → inner ws (d + 1) ≠ .error 99 → Calls Tryz.prog 137 #[.pointer (some ⟨gp, 0, none⟩)] w fun r w' => PXR w w' gp gm ((d + 1 : Nat) : Int) (inner ws (d + 1)) r) :
    Calls Tryz.prog 117 #[.pointer (some ⟨gp, 0, none⟩), .func (.func 137) #[.pointer (some ⟨gp, 0, none⟩)] #[]] w fun r w' => PXR w w' gp gm (d : Int) (deepP inner ws d) r := by
  by_cases h12 : d = 12
  · subst h12
    have e : deepP inner ws 12 = .error 2 := by unfold deepP; rw [if_pos rfl]
    rw [e]
    exact deeper12_ps_unary gp gm wv ws w h
  · have e : deepP inner ws d = inner ws (d + 1) := by unfold deepP; rw [if_neg h12]
    rw [e] at hT ⊢
    exact deeperI_ps_unary (inner ws (d + 1)) gp gm wv ws (d : Int) (by omega) (by omega) w h (fun w hp => HI (by omega) w hp hT)
set_option maxRecDepth 100000 in
theorem deeper12_ps_expr (gp gm : Nat) (wv : Value) (ws : Ws) (w : World) (h : PX w gp gm wv ws 12 0) :
    Calls Tryz.prog 117 #[.pointer (some ⟨gp, 0, none⟩), .func (.func 53) #[.pointer (some ⟨gp, 0, none⟩)] #[]] w fun r w' => PXR w w' gp gm 12 (.error 2) r := by
  have c2 : w.cell? ⟨gp, 2, none⟩ = some (.int .i64 12) := h.ps.bd.c 2 (by simp)
  have FL := hidE (fail_any gp gm 2 (by decide) wv ws 12 0 w h.ps)
  have HP := hidE h
  clear h
  go_enter Tryz.func117, Tryz.ntmps117
  go_wp2_with fail
  refine FL.out.mono ?_
  rintro r w1 ⟨rfl, hk, hp⟩
  have K1 := hidE hk
  have P1 := hidE (px_err HP.out hk hp)
  clear hk hp FL
  go_wp2_with fail
  go_ret
  exact pxr_err K1.out ⟨by decide, rfl⟩ P1.out
set_option maxRecDepth 100000 in
set_option maxHeartbeats 1000000 in
theorem deeperI_ps_expr (T : PR) (gp gm : Nat) (wv : Value) (ws : Ws) (d : Int) (hd0 : 0 ≤ d) (hd : d < 12) (w : World) (h : PX w gp gm wv ws d 0)
    (HI : ∀ w, PX w gp gm wv ws (d + 1) 0 → Calls Tryz.prog 53 #[.pointer (some ⟨gp, 0, none⟩)] w fun r w' => PXR w w' gp gm (d + 1) T r) :
    Calls Tryz.prog 117 #[.pointer (some ⟨gp, 0, none⟩), .func (.func 53) #[.pointer (some ⟨gp, 0, none⟩)] #[]] w fun r w' => PXR w w' gp gm d T r := by
  have c2 : w.cell? ⟨gp, 2, none⟩ = some (.int .i64 d) := h.ps.bd.c 2 (by simp)
  have f2 := h.ps.bd.fz 2
  have d12 : (d == 12) = false := by simp; omega
  have SD := px_deep h (d + 1)
  have K0 := hidE SD.2
  have IN := hidE (HI _ SD.1)
  clear h SD HI
  go_enter Tryz.func117, Tryz.ntmps117
  go_wp2_with fail
  refine IN.out.mono ?_
  rintro r w1 ⟨hk, hr⟩
  have K1 := hidE (keptB_trans K0.out hk)
  have hst : ∃ v, r = .returned v ∧ (∃ wv1 ws1 e1, PX w1 gp gm wv1 ws1 (d + 1) e1) ∧ ∀ w2, (∀ wv1 ws1 e1, PX w1 gp gm wv1 ws1 (d + 1) e1 → PX w2 gp gm wv1 ws1 d e1) → KeptB w1 w2 (fun q => q = gp) → PXR w w2 gp gm d T (.returned v) := by
    cases T with
    | error c =>
      obtain ⟨v, wv1, e9, hc, hp⟩ := hr
      exact ⟨v, e9, ⟨_, _, _, hp⟩, fun w2 hpx hk2 => pxr_err (keptB_trans K1.out hk2) hc (hpx _ _ _ hp)⟩
    | ok p =>
      obtain ⟨v, wv1, e9, hn, hp⟩ := hr
      exact ⟨v, e9, ⟨_, _, _, hp⟩, fun w2 hpx hk2 => ⟨keptB_trans K1.out hk2, v, wv1, rfl, nds_kept hn hk2 (fun q e => by omega), hpx _ _ _ hp⟩⟩
  obtain ⟨v, rfl, ⟨wv1, ws1, e1, hp⟩, hfin⟩ := hst
  have c3 : w1.cell? ⟨gp, 2, none⟩ = some (.int .i64 (d + 1)) := hp.ps.bd.c 2 (by simp)
  have f3 := hp.ps.bd.fz 2
  have FIN := hidE hfin
  have HP1 := hidE hp
  have es : Hid (d + 1 - 1 = d) := by show _ = _; omega
  have FX : Hid (∀ w2, w2 = w1.setCell ⟨gp, 2, none⟩ (.int .i64 (d + 1 - 1)) → PXR w w2 gp gm d T (.returned v)) := fun w2 e2 => by
    subst e2
    rw [es.out]
    exact hfin _ (fun wv1 ws1 e1 hp => (px_deep hp _).1) (px_deep hp _).2
  clear hk hr hp hfin IN FIN
  go_wp2_with fail
  go_ret
  first
    | exact FX.out _ rfl
    | (have h9 := FX.out _ rfl; rw [es.out] at h9; exact h9)
theorem deeper_ps_expr (inner : Ws → Nat → PR) (gp gm : Nat) (wv : Value) (ws : Ws) (d : Nat) (hd : d ≤ 12) (w : World) (h : PX w gp gm wv ws (d : Int) 0) (hT : deepP inner ws d ≠ .error 99)
    (HI : d < 12 → ∀ w, PX w gp gm wv ws ((d + 1 : Nat) : Int) 0 → inner ws (d + 1) ≠ .error 99 → Calls Tryz.prog 53 #[.pointer (some ⟨gp, 0, none⟩)] w fun r w' => PXR w w' gp gm ((d + 1 : Nat) : Int) (inner ws (d + 1)) r) :
    Calls Tryz.prog 117 #[.pointer (some ⟨gp, 0, none⟩), .func (.func 53) #[.pointer (some ⟨gp, 0, none⟩)] #[]] w fun r w' => PXR w w' gp gm (d : Int) (deepP inner ws d) r := by
  by_cases h12 : d = 12
  · subst h12
    have e : deepP inner ws 12 = .error 2 := by unfold deepP; rw [if_pos rfl]
    rw [e]
    exact deeper12_ps_expr gp gm wv ws w h
  · have e : deepP inner ws d = inner ws (d + 1) := by unfold deepP; rw [if_neg h12]
    rw [e] at hT ⊢
    exact deeperI_ps_expr (inner ws (d + 1)) gp gm wv ws (d : Int) (by omega) (by omega) w h (fun w hp => HI (by omega) w hp hT)
end Go.Proofs.YteaanpdckkmjoaaGreatDoor

/- The law TopJoin, proved for every two lists of nodes, kind and event: it returns true and changes nothing that was there. Conditions: none. -/
import Derived.Test.YtepfpmagppckeaaExpr11
namespace Go.Proofs.Ytepfpmagppckeaa
open Go.ChangeShapes Go.WideShapes Go.ChangeAt Go.RowKit
set_option linter.unusedVariables false
set_option linter.unusedSimpArgs false
attribute [local go_sem ↓] eql_value neq_value

def fld : Nd := ⟨2, 0, 0, 0, 0, 0⟩
theorem rowG_lit6 (w : World) (n : Nd) (g : Nat) (hg : g = w.heap.size) : RowG (w.alloc (.cells #[.int .i64 n.op, .int .i64 n.x, .int .i64 n.y, .int .i64 n.n, .int .i64 n.k, .int .i64 n.v] 50)) (.slice (some ⟨g, 0, none⟩) 1 1) 6 1 (rowN [n]) := by
  subst hg
  have h := World.ownsRow_lit (base := 0) (size := 6) (e := 50) w #[.int .i64 n.op, .int .i64 n.x, .int .i64 n.y, .int .i64 n.n, .int .i64 n.k, .int .i64 n.v] 1 (Nat.zero_le _) (by decide) rfl
  exact rowG_of_owns h

theorem good_mvb {l : List Nd} {bs : List Nat} (h : Good l bs) (hl : l.length ≤ 100) : ∀ n ∈ l, Mvb n := by
  intro n hn
  obtain ⟨i, hi, rfl⟩ := List.getElem_of_mem hn
  have hi' := List.getElem?_eq_getElem hi
  obtain ⟨ok, a0, -⟩ := good_at h hi'
  obtain ⟨p1, p2⟩ := good_part h hi'
  have hle := ar_le l[i].op
  unfold okN at ok
  by_cases hb : badN l[i]
  · simp [hb] at ok
  unfold badN at hb
  unfold Mvb
  rcases (by omega : ar l[i].op = 0 ∨ ar l[i].op = 1 ∨ ar l[i].op = 2) with q | q | q
  · omega
  · have := p1 (by omega); omega
  · have := p1 (by omega); have := p2 q; omega
theorem good_ok {l : List Nd} {bs : List Nat} (h : Good l bs) : ∀ n ∈ l, okN n = 0 := by
  intro n hn
  obtain ⟨i, hi, rfl⟩ := List.getElem_of_mem hn
  exact (good_at h (List.getElem?_eq_getElem hi)).1

theorem good_fld : Good [fld] [0] := by
  have h : chkF [fld] [] = (0, [0]) := by decide
  exact chkF_good [fld] [] [] [0] good_nil h
theorem eval_closed : evL opV (evE 4 0 0 0 0 0 0) (joinL 6 [fld] [fld]) = (1, 8) := by decide

theorem num_8 (w : World) : Calls Try.prog 38 #[.int .i64 8] w fun e w' => e = .returned (.agg #[.int .i64 1, .int .i64 8]) ∧ Below w.heap.size w w' := number_any 8 w

theorem all_one {P : Nat → Prop} {k : Nat} (h : P k) : ∀ i ∈ [k], P i := fun i hi => by rw [List.mem_singleton.1 hi]; exact h
section
variable {P : Program} {md : Region.Mode} {ops : Array Oper} {Q : Exit → Act → World → Prop} {S : World → Prop}
theorem held_take {i : Nat} {oi : Oper} {v : Value} {fuel : Nat} {listed L : Array Bool} {a : Act} {w : World} (hi : ops[i]? = some oi)
    (hs : Region.noSelect ops = true) (hf : Region.free md ops listed i = true) (hr : (Region.ready md ops listed).contains i = true)
    (hQ : ∀ c a w, Q (.panic c) (a.put oi.dst v) w → Q (.panic c) a w) (hy : YieldsIf P ops S oi v a) (hS : S w) (hL : listed.setIfInBounds i true = L)
    (h : wpAnyH P md ops Q S fuel L (a.put oi.dst v) w) : wpAnyH P md ops Q S (fuel + 1) listed a w :=
  wpAnyH_take hi hs hf hr hQ hy hS (by rw [hL]; exact h)
theorem held_go {i : Nat} {o : Oper} {fuel : Nat} {listed L : Array Bool} {a : Act} {w : World} (hr : Region.ready md ops listed = [i]) (ho : ops[i]? = some o)
    (hw : Region.wanted o (yielded ops a.tmps) = true) (hL : listed.setIfInBounds i true = L)
    (h : ∀ K' : Act → World → Prop, (∀ a' w', (S w' ∧ wpAnyH P md ops Q S fuel L a' w') → K' a' w') → Oper.wp P o a w K' Q) : wpAnyH P md ops Q S (fuel + 1) listed a w :=
  wpAnyH_all hr (by simp) (all_one (wpOp_step ho (fun K' hK => by rw [if_pos hw]; exact h K' (fun a' w' q => hK a' w' ⟨q.1, by rw [hL]; exact q.2⟩))))
end
theorem opV_two {op : Int} (h : ar op = 2) (x y : V2) : opV op x y = doV op x.1 x.2 y.1 y.2 := by
  have h3 : op ≠ 3 := by intro e; rw [e] at h; exact absurd h (by decide)
  have h4 : op ≠ 4 := by intro e; rw [e] at h; exact absurd h (by decide)
  have h5 : op ≠ 5 := by intro e; rw [e] at h; exact absurd h (by decide)
  unfold opV
  rw [if_neg h3, if_neg h4, if_neg h5]
theorem ok_evF {ev : List V2} (hev : ∀ p ∈ ev, okV p) : ∀ (l : List Nd) (vs : List V2), (∀ n ∈ l, okN n = 0) → (∀ p ∈ vs, okV p) → ∀ p ∈ evF opV ev l vs, okV p
  | [], vs, _, h => h
  | n :: l, vs, hn, h => by
    unfold evF
    refine ok_evF hev l _ (fun m hm => hn m (List.mem_cons_of_mem _ hm)) (fun q hq => ?_)
    simp only [List.mem_append, List.mem_cons, List.not_mem_nil, or_false] at hq
    rcases hq with hq | rfl
    · exact h q hq
    · exact ok_evN hev (hn n List.mem_cons_self)
theorem ok_evL {ev : List V2} (hev : ∀ p ∈ ev, okV p) {l : List Nd} (hn : ∀ n ∈ l, okN n = 0) : okV (evL opV ev l) :=
  ok_nth (ok_evF hev l [] hn (fun p hp => absurd hp (by simp))) _

/-- the closed fact at its head -/
theorem join_fld (w : World) (ao : Option Addr) (cap : Nat) (hr : RowG w (.slice ao 1 cap) 6 1 (rowN [fld])) :
    Calls Try.prog 27 #[.int .i64 6, .slice ao 1 cap, .slice ao 1 cap] w fun e w' => ∃ ao' cap', e = .returned (.slice ao' 3 cap') ∧ RowG w' (.slice ao' 3 cap') 6 3 (rowN (joinL 6 [fld] [fld])) ∧ Below w.heap.size w w' := by
  have hm := good_mvb good_fld (by decide)
  refine (join_two 6 [fld] [fld] _ _ w (by decide) (by decide) hr hr hm hm (by decide)).mono ?_
  rintro e w' ⟨u, rfl, ho, hb⟩
  obtain ⟨ao', cap', rfl⟩ := owns_shapeE ho
  exact ⟨ao', cap', rfl, rowG_of_owns ho, hb⟩
theorem eval_fld (w : World) (ao : Option Addr) (cap : Nat) (hr : RowG w (.slice ao 3 cap) 6 3 (rowN (joinL 6 [fld] [fld]))) :
    Calls Try.prog 24 #[.slice ao 3 cap, aggE 4 0 0 0 0 0 0] w fun e w' => e = .returned (.agg #[.int .i64 1, .int .i64 8]) ∧ Below w.heap.size w w' := by
  have h := eval_any (joinL 6 [fld] [fld]) (.slice ao 3 cap) 4 0 0 0 0 0 0 w (by decide) hr (by decide) (may_ok (by decide))
  rw [eval_closed] at h
  exact h

set_option maxRecDepth 100000 in
set_option maxHeartbeats 20000000 in
theorem topJoin_walk (l m : List Nd) (op t k1 k2 a1 a2 b1 b2 : Int) (u v : Value) (w : World) (hu : RowG w u 6 l.length (rowN l)) (hv : RowG w v 6 m.length (rowN m)) (hl : l.length ≤ maxLen) (hm : m.length ≤ maxLen) :
    Calls Try.prog 9 #[u, v, .int .i64 op, aggE t k1 k2 a1 a2 b1 b2] w fun e w' => e = .returned (.bool true) ∧ Below w.heap.size w w' := by
  obtain ⟨ao, cap, rfl⟩ := rowG_shape hu
  obtain ⟨ao2, cap2, rfl⟩ := rowG_shape hv
  have HU := hidE hu
  have HV := hidE hv
  clear hu hv
  unfold maxLen at hl hm
  have HE : Hid (Below w.heap.size w (w.alloc (.cells #[.int .i64 t, .int .i64 k1, .int .i64 k2, .int .i64 a1, .int .i64 a2, .int .i64 b1, .int .i64 b2] 37))) := (Below.refl _ _).alloc (Nat.le_refl _) _
  have HF := hidE (join_fld ((w.alloc (.cells #[.int .i64 t, .int .i64 k1, .int .i64 k2, .int .i64 a1, .int .i64 a2, .int .i64 b1, .int .i64 b2] 37)).alloc (.cells #[.int .i64 2, .int .i64 0, .int .i64 0, .int .i64 0, .int .i64 0, .int .i64 0] 50)) (some ⟨w.heap.size + 1, 0, none⟩) 1 (rowG_lit6 (w.alloc (.cells #[.int .i64 t, .int .i64 k1, .int .i64 k2, .int .i64 a1, .int .i64 a2, .int .i64 b1, .int .i64 b2] 37)) fld (w.heap.size + 1) (by simp)))
  have HX2 : Hid (Below w.heap.size w ((w.alloc (.cells #[.int .i64 t, .int .i64 k1, .int .i64 k2, .int .i64 a1, .int .i64 a2, .int .i64 b1, .int .i64 b2] 37)).alloc (.cells #[.int .i64 2, .int .i64 0, .int .i64 0, .int .i64 0, .int .i64 0, .int .i64 0] 50))) := HE.out.alloc (by simp) _
  unfold aggE
  go_enter Try.func9, Try.ntmps9
  go_wp2_with fail
  refine HF.out.mono ?_
  rintro e w1 ⟨ao3, cap3, rfl, hr, hb⟩
  have HB1 := hidE hb
  have HV1 := hidE (eval_fld w1 ao3 cap3 hr)
  unfold aggE at HV1
  clear hr hb HF
  go_wp2_with fail
  refine HV1.out.mono ?_
  rintro e w2 ⟨rfl, hb⟩
  have HB2 := nxt HB1 hb
  clear hb HV1 HB1
  go_wp2_with fail
  have kn := kin_some (w2.alloc (.cells #[.int .i64 1, .int .i64 8] 35))
  obtain ⟨kc, kf⟩ := kin_rules (w2.alloc (.cells #[.int .i64 1, .int .i64 8] 35))
  have HB3 : Hid (Below (w2.alloc (.cells #[.int .i64 1, .int .i64 8] 35)).heap.size (w2.alloc (.cells #[.int .i64 1, .int .i64 8] 35)) (w2.alloc (.cells #[.int .i64 1, .int .i64 8] 35))) := Below.refl _ _
  refine wp_region_kin HB3 (by kernel_rfl) (by kernel_rfl) ?_
  repeat (go_big_quiet_step ((go_at_call 38; exact kin_of (num_8 _))))
  refine wpQuiet_nil ?_
  rintro _ ⟨p, rfl⟩
  have HB := nxt (nxta HB2 (.cells #[.int .i64 1, .int .i64 8] 35)) p.h
  clear HB2 HB3 kc kf kn
  generalize p.w = w3 at *
  clear p
  obtain ⟨hc, hf⟩ := rules HB
  have CL : Hid (l.length ≤ 50 → ∀ w', Below ((w.alloc (.cells #[.int .i64 t, .int .i64 k1, .int .i64 k2, .int .i64 a1, .int .i64 a2, .int .i64 b1, .int .i64 b2] 37)).alloc (.cells #[.int .i64 2, .int .i64 0, .int .i64 0, .int .i64 0, .int .i64 0, .int .i64 0] 50)).heap.size ((w.alloc (.cells #[.int .i64 t, .int .i64 k1, .int .i64 k2, .int .i64 a1, .int .i64 a2, .int .i64 b1, .int .i64 b2] 37)).alloc (.cells #[.int .i64 2, .int .i64 0, .int .i64 0, .int .i64 0, .int .i64 0, .int .i64 0] 50)) w' → _) := fun h w' hb => check_any l (.slice ao l.length cap) w' (by omega) (rowG_below (rowG_below HU.out HX2.out) hb)
  have CM : Hid (m.length ≤ 50 → ∀ w', Below ((w.alloc (.cells #[.int .i64 t, .int .i64 k1, .int .i64 k2, .int .i64 a1, .int .i64 a2, .int .i64 b1, .int .i64 b2] 37)).alloc (.cells #[.int .i64 2, .int .i64 0, .int .i64 0, .int .i64 0, .int .i64 0, .int .i64 0] 50)).heap.size ((w.alloc (.cells #[.int .i64 t, .int .i64 k1, .int .i64 k2, .int .i64 a1, .int .i64 a2, .int .i64 b1, .int .i64 b2] 37)).alloc (.cells #[.int .i64 2, .int .i64 0, .int .i64 0, .int .i64 0, .int .i64 0, .int .i64 0] 50)) w' → _) := fun h w' hb => check_any m (.slice ao2 m.length cap2) w' (by omega) (rowG_below (rowG_below HV.out HX2.out) hb)
  have MY := hidE (fun w => may_any t k1 k2 a1 a2 b1 b2 w)
  unfold aggE at MY
  go_wp2_with fail
  refine (light_any _ _ _ _ (by show _ ≤ 2 ^ 63 - 1; omega)).mono ?_
  rintro e w' ⟨rfl, hw⟩
  subst w'
  by_cases hL : l.length ≤ 50
  case neg =>
    have dL : decide (l.length ≤ 50) = false := by simpa using hL
    rw [dL]
    go_wp2_with fail
    go_ret
    exact ⟨rfl, done HX2.out HB⟩
  rw [decide_eq_true hL]
  go_wp2_with fail
  refine (light_any _ _ _ _ (by show _ ≤ 2 ^ 63 - 1; omega)).mono ?_
  rintro e w' ⟨rfl, hw⟩
  subst w'
  by_cases hM : m.length ≤ 50
  case neg =>
    have dM : decide (m.length ≤ 50) = false := by simpa using hM
    rw [dM]
    go_wp2_with fail
    go_ret
    exact ⟨rfl, done HX2.out HB⟩
  rw [decide_eq_true hM]
  go_wp2_with fail
  refine (CL.out hL _ HB.out).mono ?_
  rintro e wn ⟨rfl, hb⟩
  have HB := nxt HB hb
  obtain ⟨hc, hf⟩ := rules HB
  clear hb
  by_cases cl : chkE l = 0
  case neg =>
    have e0 : errC (chkE l) = .iface 69 (.int .i64 (chkE l)) := by unfold errC; rw [if_neg cl]
    rw [e0]
    clear cl e0
    go_wp2_with fail
    go_ret
    exact ⟨rfl, done HX2.out HB⟩
  have HCL := hidE cl
  rw [cl]
  have e0 : errC 0 = .nilIface := rfl
  rw [e0]
  clear cl
  go_wp2_with fail
  refine (CM.out hM _ HB.out).mono ?_
  rintro e wn ⟨rfl, hb⟩
  have HB := nxt HB hb
  obtain ⟨hc, hf⟩ := rules HB
  clear hb
  by_cases cm : chkE m = 0
  case neg =>
    have e0 : errC (chkE m) = .iface 69 (.int .i64 (chkE m)) := by unfold errC; rw [if_neg cm]
    rw [e0]
    clear cm e0
    go_wp2_with fail
    go_ret
    exact ⟨rfl, done HX2.out HB⟩
  have HCM := hidE cm
  rw [cm, e0]
  clear cm e0
  go_wp2_with fail
  refine (arity_any _ _).mono ?_
  rintro e w' ⟨rfl, hw⟩
  subst w'
  by_cases ha : ar op = 2
  case neg =>
    have da : (ar op != 2) = true := by simp [ha]
    clear ha
    go_wp2_with fail
    go_ret
    exact ⟨rfl, done HX2.out HB⟩
  have HAR := hidE ha
  have da : (ar op != 2) = false := by simp [ha]
  clear ha
  go_wp2_with fail
  refine (MY.out _).mono ?_
  rintro e wn ⟨rfl, hb⟩
  have HB := nxt HB hb
  obtain ⟨hc, hf⟩ := rules HB
  clear hb
  cases hy : mayB t k1 k2 a1 a2 b1 b2
  case false =>
    clear hy
    go_wp2_with fail
    go_ret
    exact ⟨rfl, done HX2.out HB⟩
  have HMY := hidE hy
  clear hy CL CM MY
  go_wp2_with fail
  -- MAIN
  obtain ⟨bl, gl, l40, l0, lb⟩ := good_of_chk HCL.out
  obtain ⟨bm, gm, m40, m0, mb⟩ := good_of_chk HCM.out
  have RU := hidE (rowG_below (rowG_below HU.out HX2.out) HB.out)
  have RV := hidE (rowG_below (rowG_below HV.out HX2.out) HB.out)
  have GJ := hidE (good_joinL (op := op) gl gm l0 m0 lb mb HAR.out)
  have EV := hidE (may_ok HMY.out)
  have HX : Hid (evL opV (evE t k1 k2 a1 a2 b1 b2) (joinL op l m) = doV op (evL opV (evE t k1 k2 a1 a2 b1 b2) l).1 (evL opV (evE t k1 k2 a1 a2 b1 b2) l).2 (evL opV (evE t k1 k2 a1 a2 b1 b2) m).1 (evL opV (evE t k1 k2 a1 a2 b1 b2) m).2) := by
    show _ = _
    rw [ev_join opV _ op l m bm gm l0 m0 HAR.out, opV_two HAR.out]
  obtain ⟨p, hp⟩ : ∃ p, l.length = p + 1 := ⟨l.length - 1, by omega⟩
  obtain ⟨q, hq⟩ : ∃ q, m.length = q + 1 := ⟨m.length - 1, by omega⟩
  have hJl : (joinL op l m).length = l.length + m.length + 1 := by simp [joinL]; omega
  obtain ⟨d, hd⟩ : ∃ d, l.length + m.length = d := ⟨_, rfl⟩
  rw [hd] at hJl
  have hd100 : d ≤ 80 := by omega
  have hpd : p < d + 1 := by omega
  have hqd : l.length + q < d + 1 := by omega
  have HN : Hid ((joinL op l m)[d]? = some ⟨op, (p : Int), ((l.length + q : Nat) : Int), 0, 0, 0⟩) := by
    show _ = _
    unfold joinL
    rw [List.getElem?_append_right (by simp; omega)]
    have : d - (l ++ m.map (mv (l.length : Int))).length = 0 := by simp; omega
    rw [this]
    simp only [List.getElem?_cons_zero, Option.some.injEq, Nd.mk.injEq, true_and, and_true]
    omega
  have CXe : Hid ((bl ++ bm.map (· + l.length) ++ [0]).getD p 0 = 0) := by
    show _ = _
    have : l.length - 1 = p := by omega
    rw [this] at lb
    rw [List.getD_eq_getElem?_getD, List.append_assoc, List.getElem?_append_left (by rw [gl.1]; omega), lb]; rfl
  have CYe : Hid ((bl ++ bm.map (· + l.length) ++ [0]).getD (l.length + q) 0 = l.length) := by
    show _ = _
    have : m.length - 1 = q := by omega
    rw [this] at mb
    rw [List.getD_eq_getElem?_getD, List.getElem?_append_left (by simp [gl.1, gm.1]; omega), List.getElem?_append_right (by rw [gl.1]; omega), gl.1, List.getElem?_map, Nat.add_sub_cancel_left, mb]
    simp
  have XX : Hid (cutL (joinL op l m) 0 p = l) := by
    have := cut_left op l m l0
    rw [hp, Nat.add_sub_cancel] at this
    exact this
  have YY : Hid (cutL (joinL op l m) l.length (l.length + q) = m) := by
    have := cut_right op l m m0
    rw [show l.length + m.length - 1 = l.length + q from by omega] at this
    exact this
  have HLB : Hid ((bl ++ bm.map (· + l.length) ++ [0])[d]? = some 0) := by
    show _ = _
    have h9 : (bl ++ bm.map (· + l.length)).length = d := by simp [gl.1, gm.1]; omega
    rw [List.getElem?_append_right (by omega), h9, Nat.sub_self]; rfl
  have HML := hidE (good_mvb gl (by omega))
  have HMM := hidE (good_mvb gm (by omega))
  have OL := hidE (good_ok gl)
  have OM := hidE (good_ok gm)
  have LX := okV_lo (ok_evL EV.out OL.out)
  have LY := okV_lo (ok_evL EV.out OM.out)
  have HJl := hidE hJl
  have HD := hidE hd
  clear gl gm lb mb hp hq hd l0 m0 hJl
  refine (join_two op l m _ _ wn (by omega) (by omega) RU.out RV.out HML.out HMM.out HAR.out).mono ?_
  rintro e wj ⟨uj, rfl, hoj, hbj⟩
  rw [HJl.out] at hoj
  have HBj := nxt HB hbj
  have RU := hidE (rowG_below RU.out hbj)
  have RV := hidE (rowG_below RV.out hbj)
  have RJ := rowG_of_owns hoj
  obtain ⟨ao4, cap4, rfl⟩ := rowG_shape RJ
  obtain ⟨gj, off, hao, -, hcap, hcap2, hgj⟩ := rowN_node (l := joinL op l m) (by rw [HJl.out]; exact RJ) d (by rw [HJl.out]; omega)
  subst hao
  have RJ := hidE RJ
  clear hoj hbj HB hc hf
  have hsw : w.heap.size < wj.heap.size := by
    have := HBj.out.size
    simp only [World.size_alloc] at this
    omega
  have CJ : Hid (d + 1 ≤ 40 → Calls Try.prog 20 #[.slice (some ⟨gj, off, none⟩) (d + 1) cap4] wj fun e w' => e = .returned .nilIface ∧ Below wj.heap.size wj w') := by
    intro h
    have hk := check_any (joinL op l m) (.slice (some ⟨gj, off, none⟩) (d + 1) cap4) wj (by rw [HJl.out]; omega) (by rw [HJl.out]; exact RJ.out)
    rw [chk_of_good GJ.out (by rw [HJl.out]; exact h) (by rw [HJl.out]; omega) (by rw [HJl.out, Nat.add_sub_cancel]; exact HLB.out)] at hk
    exact hk
  by_cases h40 : d + 1 ≤ 40
  case' pos =>
    have d40 : decide (d + 1 ≤ 40) = true := by simpa using h40
    go_wp2_with fail
    refine (CJ.out h40).mono ?_
    rintro e wk ⟨rfl, hbk⟩
    have HBk := hidE hbk
    clear hbk
    go_wp2_with fail
  case' neg =>
    have d40 : decide (d + 1 ≤ 40) = false := by simpa using h40
    go_wp2_with fail
    obtain ⟨wk, hwk⟩ : ∃ wk, wk = wj := ⟨_, rfl⟩
    rw [← hwk]
    have HBk : Hid (Below wj.heap.size wj wk) := by rw [hwk]; exact Below.refl _ _
    clear hwk
  all_goals
    have hgk : gj < wk.heap.size := Nat.lt_of_lt_of_le hgj HBk.out.size
    have hsk : w.heap.size < wk.heap.size := Nat.lt_of_lt_of_le hsw HBk.out.size
    have HBf := nxt HBj HBk.out
    have RU := hidE (rowG_below RU.out HBk.out)
    have RV := hidE (rowG_below RV.out HBk.out)
    have RJ := hidE (rowG_below RJ.out HBk.out)
    obtain ⟨g', off', hao, ⟨-, nX, nY, -, -, -⟩, -, -, -⟩ := rowN_node (l := joinL op l m) (by rw [HJl.out]; exact RJ.out) d (by rw [HJl.out]; omega)
    simp only [Option.some.injEq, Addr.mk.injEq] at hao
    obtain ⟨rfl, rfl, -⟩ := hao
    have hnd : (joinL op l m)[d]'(by rw [HJl.out]; omega) = ⟨op, (p : Int), ((l.length + q : Nat) : Int), 0, 0, 0⟩ := (List.getElem?_eq_some_iff.1 HN.out).2
    rw [hnd] at nX nY
    simp only at nX nY
    clear hnd
    have ce0 : wk.cell? ⟨w.heap.size, 0, none⟩ = some (.int .i64 t) := by rw [HBf.out.cell (p := ⟨w.heap.size, 0, none⟩) (by simp only [World.size_alloc]; omega)]; go_simp
    have ce1 : wk.cell? ⟨w.heap.size, 1, none⟩ = some (.int .i64 k1) := by rw [HBf.out.cell (p := ⟨w.heap.size, 1, none⟩) (by simp only [World.size_alloc]; omega)]; go_simp
    have ce2 : wk.cell? ⟨w.heap.size, 2, none⟩ = some (.int .i64 k2) := by rw [HBf.out.cell (p := ⟨w.heap.size, 2, none⟩) (by simp only [World.size_alloc]; omega)]; go_simp
    have ce3 : wk.cell? ⟨w.heap.size, 3, none⟩ = some (.int .i64 a1) := by rw [HBf.out.cell (p := ⟨w.heap.size, 3, none⟩) (by simp only [World.size_alloc]; omega)]; go_simp
    have ce4 : wk.cell? ⟨w.heap.size, 4, none⟩ = some (.int .i64 a2) := by rw [HBf.out.cell (p := ⟨w.heap.size, 4, none⟩) (by simp only [World.size_alloc]; omega)]; go_simp
    have ce5 : wk.cell? ⟨w.heap.size, 5, none⟩ = some (.int .i64 b1) := by rw [HBf.out.cell (p := ⟨w.heap.size, 5, none⟩) (by simp only [World.size_alloc]; omega)]; go_simp
    have ce6 : wk.cell? ⟨w.heap.size, 6, none⟩ = some (.int .i64 b2) := by rw [HBf.out.cell (p := ⟨w.heap.size, 6, none⟩) (by simp only [World.size_alloc]; omega)]; go_simp
    have EJ : Hid (∀ w', Below wk.heap.size wk w' → Calls Try.prog 24 #[.slice (some ⟨gj, off, none⟩) (d + 1) cap4, .agg #[.int .i64 t, .int .i64 k1, .int .i64 k2, .int .i64 a1, .int .i64 a2, .int .i64 b1, .int .i64 b2]] w' fun e w'' => e = .returned (.agg #[.int .i64 (evL opV (evE t k1 k2 a1 a2 b1 b2) (joinL op l m)).1, .int .i64 (evL opV (evE t k1 k2 a1 a2 b1 b2) (joinL op l m)).2]) ∧ Below w'.heap.size w' w'') := fun w' hb => eval_any (joinL op l m) (.slice (some ⟨gj, off, none⟩) (d + 1) cap4) t k1 k2 a1 a2 b1 b2 w' (by rw [HJl.out]; omega) (by rw [HJl.out]; exact rowG_below RJ.out hb) (good_ok GJ.out) EV.out
    have EL : Hid (∀ w', Below wk.heap.size wk w' → Calls Try.prog 24 #[.slice ao l.length cap, .agg #[.int .i64 t, .int .i64 k1, .int .i64 k2, .int .i64 a1, .int .i64 a2, .int .i64 b1, .int .i64 b2]] w' fun e w'' => e = .returned (.agg #[.int .i64 (evL opV (evE t k1 k2 a1 a2 b1 b2) l).1, .int .i64 (evL opV (evE t k1 k2 a1 a2 b1 b2) l).2]) ∧ Below w'.heap.size w' w'') := fun w' hb => eval_any l _ t k1 k2 a1 a2 b1 b2 w' (by omega) (rowG_below RU.out hb) OL.out EV.out
    have EM : Hid (∀ w', Below wk.heap.size wk w' → Calls Try.prog 24 #[.slice ao2 m.length cap2, .agg #[.int .i64 t, .int .i64 k1, .int .i64 k2, .int .i64 a1, .int .i64 a2, .int .i64 b1, .int .i64 b2]] w' fun e w'' => e = .returned (.agg #[.int .i64 (evL opV (evE t k1 k2 a1 a2 b1 b2) m).1, .int .i64 (evL opV (evE t k1 k2 a1 a2 b1 b2) m).2]) ∧ Below w'.heap.size w' w'') := fun w' hb => eval_any m _ t k1 k2 a1 a2 b1 b2 w' (by omega) (rowG_below RV.out hb) OM.out EV.out
    rw [HX.out] at EJ
    have CX : Hid (∀ w', Below wk.heap.size wk w' → Calls Try.prog 26 #[.slice (some ⟨gj, off, none⟩) (d + 1) cap4, .int .i64 (p : Int)] w' fun e w'' => ∃ u, e = .returned u ∧ RowG w'' u 6 l.length (rowN l) ∧ Below w'.heap.size w' w'') := fun w' hb => by
      have hk := cut_any (joinL op l m) _ p (.slice (some ⟨gj, off, none⟩) (d + 1) cap4) w' (by rw [HJl.out]; omega) GJ.out (by rw [HJl.out]; omega) (by rw [HJl.out]; exact rowG_below RJ.out hb) (good_mvb GJ.out (by rw [HJl.out]; omega))
      rw [CXe.out, XX.out] at hk
      exact hk.mono fun e w'' ⟨u, h1, h2, h3⟩ => ⟨u, h1, rowG_of_owns h2, h3⟩
    have CY : Hid (∀ w', Below wk.heap.size wk w' → Calls Try.prog 26 #[.slice (some ⟨gj, off, none⟩) (d + 1) cap4, .int .i64 ((l.length + q : Nat) : Int)] w' fun e w'' => ∃ u, e = .returned u ∧ RowG w'' u 6 m.length (rowN m) ∧ Below w'.heap.size w' w'') := fun w' hb => by
      have hk := cut_any (joinL op l m) _ (l.length + q) (.slice (some ⟨gj, off, none⟩) (d + 1) cap4) w' (by rw [HJl.out]; omega) GJ.out (by rw [HJl.out]; omega) (by rw [HJl.out]; exact rowG_below RJ.out hb) (good_mvb GJ.out (by rw [HJl.out]; omega))
      rw [CYe.out, YY.out] at hk
      exact hk.mono fun e w'' ⟨u, h1, h2, h3⟩ => ⟨u, h1, rowG_of_owns h2, h3⟩
    generalize evL opV (evE t k1 k2 a1 a2 b1 b2) l = y at *
    generalize evL opV (evE t k1 k2 a1 a2 b1 b2) m = z at *
    obtain ⟨y1, y2⟩ := y
    obtain ⟨z1, z2⟩ := z
    simp only at EJ EL EM LX LY
    obtain ⟨lx1, lx2⟩ := LX
    obtain ⟨ly1, ly2⟩ := LY
    have DD := hidE (fun w => do_any op y1 y2 z1 z2 w lx1 lx2 ly1 ly2)
    generalize doV op y1 y2 z1 z2 = x at *
    obtain ⟨x1, x2⟩ := x
    simp only at EJ DD
    have HBr : Hid (Below wk.heap.size wk { wk with drawn := wk.drawn + 1 }) := (Below.refl _ _).drew
    clear HX XX YY CXe CYe HN GJ HBk RJ CJ HLB HBj HU HV HE
    refine wp_region_held (S := Below wk.heap.size wk) (by kernel_rfl) ?_
    generalize hw0 : ({ wk with drawn := wk.drawn + 1 } : World) = wz at *
    clear hw0
    refine held_take (i := 0) (v := .slice (some ⟨gj, off, none⟩) (d + 1) cap4) (L := #[true, false, false, false, false, false, false, false, false, false, false, false, false, false, false, false, false, false, false, false, false, false, false, false, false, false, false, false, false, false, false, false, false, false, false]) rfl (by kernel_rfl) (by kernel_rfl) (by kernel_rfl) (fun c a w h => h) (Or.inl ⟨by kernel_rfl, fun wq h => by go_simp⟩) HBr.out (by kernel_rfl) ?_
    refine held_take (i := 1) (v := .agg #[.int .i64 t, .int .i64 k1, .int .i64 k2, .int .i64 a1, .int .i64 a2, .int .i64 b1, .int .i64 b2]) (L := #[true, true, false, false, false, false, false, false, false, false, false, false, false, false, false, false, false, false, false, false, false, false, false, false, false, false, false, false, false, false, false, false, false, false, false]) rfl (by kernel_rfl) (by kernel_rfl) (by kernel_rfl) (fun c a w h => h) (Or.inl ⟨by kernel_rfl, fun wq h => by have q0 := h.cell (p := ⟨w.heap.size, 0, none⟩) hsk; rw [ce0] at q0; have q1 := h.cell (p := ⟨w.heap.size, 1, none⟩) hsk; rw [ce1] at q1; have q2 := h.cell (p := ⟨w.heap.size, 2, none⟩) hsk; rw [ce2] at q2; have q3 := h.cell (p := ⟨w.heap.size, 3, none⟩) hsk; rw [ce3] at q3; have q4 := h.cell (p := ⟨w.heap.size, 4, none⟩) hsk; rw [ce4] at q4; have q5 := h.cell (p := ⟨w.heap.size, 5, none⟩) hsk; rw [ce5] at q5; have q6 := h.cell (p := ⟨w.heap.size, 6, none⟩) hsk; rw [ce6] at q6; go_simp⟩) HBr.out (by kernel_rfl) ?_
    refine held_take (i := 3) (v := .int .i64 op) (L := #[true, true, false, true, false, false, false, false, false, false, false, false, false, false, false, false, false, false, false, false, false, false, false, false, false, false, false, false, false, false, false, false, false, false, false]) rfl (by kernel_rfl) (by kernel_rfl) (by kernel_rfl) (fun c a w h => h) (Or.inl ⟨by kernel_rfl, fun wq h => by go_simp⟩) HBr.out (by kernel_rfl) ?_
    refine held_take (i := 4) (v := .slice ao l.length cap) (L := #[true, true, false, true, true, false, false, false, false, false, false, false, false, false, false, false, false, false, false, false, false, false, false, false, false, false, false, false, false, false, false, false, false, false, false]) rfl (by kernel_rfl) (by kernel_rfl) (by kernel_rfl) (fun c a w h => h) (Or.inl ⟨by kernel_rfl, fun wq h => by go_simp⟩) HBr.out (by kernel_rfl) ?_
    refine held_take (i := 5) (v := .agg #[.int .i64 t, .int .i64 k1, .int .i64 k2, .int .i64 a1, .int .i64 a2, .int .i64 b1, .int .i64 b2]) (L := #[true, true, false, true, true, true, false, false, false, false, false, false, false, false, false, false, false, false, false, false, false, false, false, false, false, false, false, false, false, false, false, false, false, false, false]) rfl (by kernel_rfl) (by kernel_rfl) (by kernel_rfl) (fun c a w h => h) (Or.inl ⟨by kernel_rfl, fun wq h => by have q0 := h.cell (p := ⟨w.heap.size, 0, none⟩) hsk; rw [ce0] at q0; have q1 := h.cell (p := ⟨w.heap.size, 1, none⟩) hsk; rw [ce1] at q1; have q2 := h.cell (p := ⟨w.heap.size, 2, none⟩) hsk; rw [ce2] at q2; have q3 := h.cell (p := ⟨w.heap.size, 3, none⟩) hsk; rw [ce3] at q3; have q4 := h.cell (p := ⟨w.heap.size, 4, none⟩) hsk; rw [ce4] at q4; have q5 := h.cell (p := ⟨w.heap.size, 5, none⟩) hsk; rw [ce5] at q5; have q6 := h.cell (p := ⟨w.heap.size, 6, none⟩) hsk; rw [ce6] at q6; go_simp⟩) HBr.out (by kernel_rfl) ?_
    refine held_take (i := 7) (v := .slice ao2 m.length cap2) (L := #[true, true, false, true, true, true, false, true, false, false, false, false, false, false, false, false, false, false, false, false, false, false, false, false, false, false, false, false, false, false, false, false, false, false, false]) rfl (by kernel_rfl) (by kernel_rfl) (by kernel_rfl) (fun c a w h => h) (Or.inl ⟨by kernel_rfl, fun wq h => by go_simp⟩) HBr.out (by kernel_rfl) ?_
    refine held_take (i := 8) (v := .agg #[.int .i64 t, .int .i64 k1, .int .i64 k2, .int .i64 a1, .int .i64 a2, .int .i64 b1, .int .i64 b2]) (L := #[true, true, false, true, true, true, false, true, true, false, false, false, false, false, false, false, false, false, false, false, false, false, false, false, false, false, false, false, false, false, false, false, false, false, false]) rfl (by kernel_rfl) (by kernel_rfl) (by kernel_rfl) (fun c a w h => h) (Or.inl ⟨by kernel_rfl, fun wq h => by have q0 := h.cell (p := ⟨w.heap.size, 0, none⟩) hsk; rw [ce0] at q0; have q1 := h.cell (p := ⟨w.heap.size, 1, none⟩) hsk; rw [ce1] at q1; have q2 := h.cell (p := ⟨w.heap.size, 2, none⟩) hsk; rw [ce2] at q2; have q3 := h.cell (p := ⟨w.heap.size, 3, none⟩) hsk; rw [ce3] at q3; have q4 := h.cell (p := ⟨w.heap.size, 4, none⟩) hsk; rw [ce4] at q4; have q5 := h.cell (p := ⟨w.heap.size, 5, none⟩) hsk; rw [ce5] at q5; have q6 := h.cell (p := ⟨w.heap.size, 6, none⟩) hsk; rw [ce6] at q6; go_simp⟩) HBr.out (by kernel_rfl) ?_
    refine held_go (i := 2) (L := #[true, true, true, true, true, true, false, true, true, false, false, false, false, false, false, false, false, false, false, false, false, false, false, false, false, false, false, false, false, false, false, false, false, false, false]) (by kernel_rfl) rfl (by kernel_rfl) (by kernel_rfl) ?_
    intro K' hK
    go_simp
    refine (EJ.out _ HBr.out).mono ?_
    rintro e wz ⟨rfl, hb⟩
    have HBr := hidE (HBr.out.trans (hb.mono HBr.out.size))
    clear hb
    refine hK _ _ ⟨HBr.out, ?_⟩
    clear hK
    refine held_go (i := 6) (L := #[true, true, true, true, true, true, true, true, true, false, false, false, false, false, false, false, false, false, false, false, false, false, false, false, false, false, false, false, false, false, false, false, false, false, false]) (by kernel_rfl) rfl (by kernel_rfl) (by kernel_rfl) ?_
    intro K' hK
    go_simp
    refine (EL.out _ HBr.out).mono ?_
    rintro e wz ⟨rfl, hb⟩
    have HBr := hidE (HBr.out.trans (hb.mono HBr.out.size))
    clear hb
    refine hK _ _ ⟨HBr.out, ?_⟩
    clear hK
    refine held_go (i := 9) (L := #[true, true, true, true, true, true, true, true, true, true, false, false, false, false, false, false, false, false, false, false, false, false, false, false, false, false, false, false, false, false, false, false, false, false, false]) (by kernel_rfl) rfl (by kernel_rfl) (by kernel_rfl) ?_
    intro K' hK
    go_simp
    refine (EM.out _ HBr.out).mono ?_
    rintro e wz ⟨rfl, hb⟩
    have HBr := hidE (HBr.out.trans (hb.mono HBr.out.size))
    clear hb
    refine hK _ _ ⟨HBr.out, ?_⟩
    clear hK
    refine held_go (i := 10) (L := #[true, true, true, true, true, true, true, true, true, true, true, false, false, false, false, false, false, false, false, false, false, false, false, false, false, false, false, false, false, false, false, false, false, false, false]) (by kernel_rfl) rfl (by kernel_rfl) (by kernel_rfl) ?_
    intro K' hK
    go_simp
    refine (DD.out _).mono ?_
    rintro e wz ⟨rfl, hb⟩
    have HBr := hidE (HBr.out.trans (hb.mono HBr.out.size))
    clear hb
    refine hK _ _ ⟨HBr.out, ?_⟩
    clear hK
    refine held_go (i := 11) (L := #[true, true, true, true, true, true, true, true, true, true, true, true, false, false, false, false, false, false, false, false, false, false, false, false, false, false, false, false, false, false, false, false, false, false, false]) (by kernel_rfl) rfl (by kernel_rfl) (by kernel_rfl) ?_
    intro K' hK
    go_simp
    refine hK _ _ ⟨HBr.out, ?_⟩
    clear hK
    refine held_go (i := 12) (L := #[true, true, true, true, true, true, true, true, true, true, true, true, true, false, false, false, false, false, false, false, false, false, false, false, false, false, false, false, false, false, false, false, false, false, false]) (by kernel_rfl) rfl (by kernel_rfl) (by kernel_rfl) ?_
    intro K' hK
    go_simp
    refine hK _ _ ⟨HBr.out, ?_⟩
    clear hK
    refine held_take (i := 13) (v := .slice (some ⟨gj, off, none⟩) (d + 1) cap4) (L := #[true, true, true, true, true, true, true, true, true, true, true, true, true, true, false, false, false, false, false, false, false, false, false, false, false, false, false, false, false, false, false, false, false, false, false]) rfl (by kernel_rfl) (by kernel_rfl) (by kernel_rfl) (fun c a w h => h) (Or.inl ⟨by kernel_rfl, fun wq h => by go_simp⟩) HBr.out (by kernel_rfl) ?_
    refine held_take (i := 14) (v := .slice (some ⟨gj, off, none⟩) (d + 1) cap4) (L := #[true, true, true, true, true, true, true, true, true, true, true, true, true, true, true, false, false, false, false, false, false, false, false, false, false, false, false, false, false, false, false, false, false, false, false]) rfl (by kernel_rfl) (by kernel_rfl) (by kernel_rfl) (fun c a w h => h) (Or.inl ⟨by kernel_rfl, fun wq h => by go_simp⟩) HBr.out (by kernel_rfl) ?_
    refine held_take (i := 15) (v := .int .i64 (d : Int)) (L := #[true, true, true, true, true, true, true, true, true, true, true, true, true, true, true, true, false, false, false, false, false, false, false, false, false, false, false, false, false, false, false, false, false, false, false]) rfl (by kernel_rfl) (by kernel_rfl) (by kernel_rfl) (fun c a w h => h) (Or.inl ⟨by kernel_rfl, fun wq h => by go_simp⟩) HBr.out (by kernel_rfl) ?_
    refine held_take (i := 16) (v := .pointer (some ⟨gj, off + d * 6, none⟩)) (L := #[true, true, true, true, true, true, true, true, true, true, true, true, true, true, true, true, true, false, false, false, false, false, false, false, false, false, false, false, false, false, false, false, false, false, false]) rfl (by kernel_rfl) (by kernel_rfl) (by kernel_rfl) (fun c a w h => h) (Or.inl ⟨by kernel_rfl, fun wq h => by go_simp; intro hh; exact absurd hh (by omega)⟩) HBr.out (by kernel_rfl) ?_
    refine held_take (i := 17) (v := .pointer (some ⟨gj, off + d * 6 + 1, none⟩)) (L := #[true, true, true, true, true, true, true, true, true, true, true, true, true, true, true, true, true, true, false, false, false, false, false, false, false, false, false, false, false, false, false, false, false, false, false]) rfl (by kernel_rfl) (by kernel_rfl) (by kernel_rfl) (fun c a w h => h) (Or.inl ⟨by kernel_rfl, fun wq h => by go_simp⟩) HBr.out (by kernel_rfl) ?_
    refine held_take (i := 18) (v := .int .i64 (p : Int)) (L := #[true, true, true, true, true, true, true, true, true, true, true, true, true, true, true, true, true, true, true, false, false, false, false, false, false, false, false, false, false, false, false, false, false, false, false]) rfl (by kernel_rfl) (by kernel_rfl) (by kernel_rfl) (fun c a w h => h) (Or.inl ⟨by kernel_rfl, fun wq h => by have q := h.cell (p := ⟨gj, off + d * 6 + 1, none⟩) hgk; rw [nX] at q; go_simp⟩) HBr.out (by kernel_rfl) ?_
    refine held_take (i := 20) (v := .slice ao l.length cap) (L := #[true, true, true, true, true, true, true, true, true, true, true, true, true, true, true, true, true, true, true, false, true, false, false, false, false, false, false, false, false, false, false, false, false, false, false]) rfl (by kernel_rfl) (by kernel_rfl) (by kernel_rfl) (fun c a w h => h) (Or.inl ⟨by kernel_rfl, fun wq h => by go_simp⟩) HBr.out (by kernel_rfl) ?_
    refine held_go (i := 19) (L := #[true, true, true, true, true, true, true, true, true, true, true, true, true, true, true, true, true, true, true, true, true, false, false, false, false, false, false, false, false, false, false, false, false, false, false]) (by kernel_rfl) rfl (by kernel_rfl) (by kernel_rfl) ?_
    intro K' hK
    go_simp
    refine (CX.out _ HBr.out).mono ?_
    rintro e wz ⟨uc, rfl, hrc, hb⟩
    have HBr := hidE (HBr.out.trans (hb.mono HBr.out.size))
    obtain ⟨ao5, cap5, rfl⟩ := rowG_shape hrc
    have RC := hidE hrc
    clear hrc
    clear hb
    refine hK _ _ ⟨HBr.out, ?_⟩
    clear hK
    refine held_go (i := 21) (L := #[true, true, true, true, true, true, true, true, true, true, true, true, true, true, true, true, true, true, true, true, true, true, false, false, false, false, false, false, false, false, false, false, false, false, false]) (by kernel_rfl) rfl (by kernel_rfl) (by kernel_rfl) ?_
    intro K' hK
    go_simp
    refine (nodes_same _ _ _ l (by omega) RC.out (rowG_below RU.out HBr.out)).mono ?_
    rintro e wz ⟨rfl, hb⟩
    have HBr := hidE (HBr.out.trans (hb.mono HBr.out.size))
    clear hb
    refine hK _ _ ⟨HBr.out, ?_⟩
    clear hK
    refine held_go (i := 22) (L := #[true, true, true, true, true, true, true, true, true, true, true, true, true, true, true, true, true, true, true, true, true, true, true, false, false, false, false, false, false, false, false, false, false, false, false]) (by kernel_rfl) rfl (by kernel_rfl) (by kernel_rfl) ?_
    intro K' hK
    go_simp
    refine hK _ _ ⟨HBr.out, ?_⟩
    clear hK
    refine held_go (i := 23) (L := #[true, true, true, true, true, true, true, true, true, true, true, true, true, true, true, true, true, true, true, true, true, true, true, true, false, false, false, false, false, false, false, false, false, false, false]) (by kernel_rfl) rfl (by kernel_rfl) (by kernel_rfl) ?_
    intro K' hK
    go_simp
    refine hK _ _ ⟨HBr.out, ?_⟩
    clear hK
    refine held_take (i := 24) (v := .slice (some ⟨gj, off, none⟩) (d + 1) cap4) (L := #[true, true, true, true, true, true, true, true, true, true, true, true, true, true, true, true, true, true, true, true, true, true, true, true, true, false, false, false, false, false, false, false, false, false, false]) rfl (by kernel_rfl) (by kernel_rfl) (by kernel_rfl) (fun c a w h => h) (Or.inl ⟨by kernel_rfl, fun wq h => by go_simp⟩) HBr.out (by kernel_rfl) ?_
    refine held_take (i := 25) (v := .slice (some ⟨gj, off, none⟩) (d + 1) cap4) (L := #[true, true, true, true, true, true, true, true, true, true, true, true, true, true, true, true, true, true, true, true, true, true, true, true, true, true, false, false, false, false, false, false, false, false, false]) rfl (by kernel_rfl) (by kernel_rfl) (by kernel_rfl) (fun c a w h => h) (Or.inl ⟨by kernel_rfl, fun wq h => by go_simp⟩) HBr.out (by kernel_rfl) ?_
    refine held_take (i := 26) (v := .int .i64 (d : Int)) (L := #[true, true, true, true, true, true, true, true, true, true, true, true, true, true, true, true, true, true, true, true, true, true, true, true, true, true, true, false, false, false, false, false, false, false, false]) rfl (by kernel_rfl) (by kernel_rfl) (by kernel_rfl) (fun c a w h => h) (Or.inl ⟨by kernel_rfl, fun wq h => by go_simp⟩) HBr.out (by kernel_rfl) ?_
    refine held_take (i := 27) (v := .pointer (some ⟨gj, off + d * 6, none⟩)) (L := #[true, true, true, true, true, true, true, true, true, true, true, true, true, true, true, true, true, true, true, true, true, true, true, true, true, true, true, true, false, false, false, false, false, false, false]) rfl (by kernel_rfl) (by kernel_rfl) (by kernel_rfl) (fun c a w h => h) (Or.inl ⟨by kernel_rfl, fun wq h => by go_simp; intro hh; exact absurd hh (by omega)⟩) HBr.out (by kernel_rfl) ?_
    refine held_take (i := 28) (v := .pointer (some ⟨gj, off + d * 6 + 2, none⟩)) (L := #[true, true, true, true, true, true, true, true, true, true, true, true, true, true, true, true, true, true, true, true, true, true, true, true, true, true, true, true, true, false, false, false, false, false, false]) rfl (by kernel_rfl) (by kernel_rfl) (by kernel_rfl) (fun c a w h => h) (Or.inl ⟨by kernel_rfl, fun wq h => by go_simp⟩) HBr.out (by kernel_rfl) ?_
    refine held_take (i := 29) (v := .int .i64 ((l.length + q : Nat) : Int)) (L := #[true, true, true, true, true, true, true, true, true, true, true, true, true, true, true, true, true, true, true, true, true, true, true, true, true, true, true, true, true, true, false, false, false, false, false]) rfl (by kernel_rfl) (by kernel_rfl) (by kernel_rfl) (fun c a w h => h) (Or.inl ⟨by kernel_rfl, fun wq h => by have q := h.cell (p := ⟨gj, off + d * 6 + 2, none⟩) hgk; rw [nY] at q; go_simp⟩) HBr.out (by kernel_rfl) ?_
    refine held_take (i := 31) (v := .slice ao2 m.length cap2) (L := #[true, true, true, true, true, true, true, true, true, true, true, true, true, true, true, true, true, true, true, true, true, true, true, true, true, true, true, true, true, true, false, true, false, false, false]) rfl (by kernel_rfl) (by kernel_rfl) (by kernel_rfl) (fun c a w h => h) (Or.inl ⟨by kernel_rfl, fun wq h => by go_simp⟩) HBr.out (by kernel_rfl) ?_
    refine held_go (i := 30) (L := #[true, true, true, true, true, true, true, true, true, true, true, true, true, true, true, true, true, true, true, true, true, true, true, true, true, true, true, true, true, true, true, true, false, false, false]) (by kernel_rfl) rfl (by kernel_rfl) (by kernel_rfl) ?_
    intro K' hK
    go_simp
    refine (CY.out _ HBr.out).mono ?_
    rintro e wz ⟨uc2, rfl, hrc, hb⟩
    have HBr := hidE (HBr.out.trans (hb.mono HBr.out.size))
    obtain ⟨ao6, cap6, rfl⟩ := rowG_shape hrc
    have RC := hidE hrc
    clear hrc
    clear hb
    refine hK _ _ ⟨HBr.out, ?_⟩
    clear hK
    refine held_go (i := 32) (L := #[true, true, true, true, true, true, true, true, true, true, true, true, true, true, true, true, true, true, true, true, true, true, true, true, true, true, true, true, true, true, true, true, true, false, false]) (by kernel_rfl) rfl (by kernel_rfl) (by kernel_rfl) ?_
    intro K' hK
    go_simp
    refine (nodes_same _ _ _ m (by omega) RC.out (rowG_below RV.out HBr.out)).mono ?_
    rintro e wz ⟨rfl, hb⟩
    have HBr := hidE (HBr.out.trans (hb.mono HBr.out.size))
    clear hb
    refine hK _ _ ⟨HBr.out, ?_⟩
    clear hK
    refine held_go (i := 33) (L := #[true, true, true, true, true, true, true, true, true, true, true, true, true, true, true, true, true, true, true, true, true, true, true, true, true, true, true, true, true, true, true, true, true, true, false]) (by kernel_rfl) rfl (by kernel_rfl) (by kernel_rfl) ?_
    intro K' hK
    go_simp
    refine hK _ _ ⟨HBr.out, ?_⟩
    clear hK
    refine held_go (i := 34) (L := #[true, true, true, true, true, true, true, true, true, true, true, true, true, true, true, true, true, true, true, true, true, true, true, true, true, true, true, true, true, true, true, true, true, true, true]) (by kernel_rfl) rfl (by kernel_rfl) (by kernel_rfl) ?_
    intro K' hK
    go_simp
    refine hK _ _ ⟨HBr.out, ?_⟩
    clear hK
    refine wpAnyH_done (by kernel_rfl) ?_ _
    go_wp2_with fail
    go_ret
    exact ⟨rfl, done HX2.out (nxt HBf HBr.out)⟩
end Go.Proofs.Ytepfpmagppckeaa

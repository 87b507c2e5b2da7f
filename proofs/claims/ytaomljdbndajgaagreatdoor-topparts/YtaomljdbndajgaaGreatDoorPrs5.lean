/- The contract of a parser's joinBy, over this seat's translation. Conditions: as named. -/
import Derived.Test.YtaomljdbndajgaaGreatDoorPrs1J
namespace Go.Proofs.YtaomljdbndajgaaGreatDoor
open Go.ChangeShapes Go.WideShapes Go.ChangeAt Go.RowKit
set_option linter.unusedVariables false
set_option linter.unusedSimpArgs false

theorem keptB_q {w w1 w2 : World} {gp : Nat} (h : Below w.heap.size w w1) (k : KeptB w1 w2 (fun q => q = gp)) : KeptB w w2 (fun q => q = gp) := keptB_trans (keptB_of_below h) k
/-- an error stays -/
def ErrR (w w' : World) (gp gm : Nat) (d e : Int) (r : Ending) : Prop := KeptB w w' (fun q => q = gp) ∧ ∃ v wv', r = .returned v ∧ isSl v = true ∧ PS w' gp gm wv' [] d e
set_option maxRecDepth 100000 in
theorem joinBy_err00 (gp gm : Nat) (rank op : Int) (u v wv : Value) (ws : Ws) (d e : Int) (he : e ≠ 0) (w : World) (h : PS w gp gm wv ws d e) :
    Calls Tryz.prog 106 #[.pointer (some ⟨gp, 0, none⟩), .agg #[.int .i64 rank, .int .i64 op, .bool false, .bool false], u, v] w fun r w' => ErrR w w' gp gm d e r := by
  have h0 := h.e0 he
  subst h0
  have BA := hidE (below_alloc w (.cells #[.int .i64 rank, .int .i64 op, .bool false, .bool false] 106))
  have H0 := hidE (ps_kept h BA.out)
  have J1 := hidE (join_err gp gm op u v wv [] d e he _ H0.out)
  have HE := hidE he
  clear h he
  go_enter Tryz.func106, Tryz.ntmps106
  go_wp2_with fail
  refine J1.out.mono ?_
  rintro r w1 ⟨rfl, hb⟩
  have B1 := hidE (BA.out.trans (hb.mono BA.out.size))
  have H1 := hidE (ps_kept H0.out hb)
  obtain ⟨jc, jf⟩ := bcell hb
  clear hb J1
  go_wp2_with fail
  go_ret
  exact ⟨keptB_of_below B1.out, _, wv, rfl, rfl, H1.out⟩
set_option maxRecDepth 100000 in
theorem joinBy_ok00 (gp gm : Nat) (rank op : Int) (ho : ar op = 2) (u v wv : Value) (l m : List Nd) (ws : Ws) (d : Int) (w : World) (h : PS w gp gm wv ws d 0) (hu : NdsR w (gp + 1) u l) (hv : NdsR w (gp + 1) v m) :
    Calls Tryz.prog 106 #[.pointer (some ⟨gp, 0, none⟩), .agg #[.int .i64 rank, .int .i64 op, .bool false, .bool false], u, v] w fun r w' => PRR w w' gp gm d (wth ws (jnS ⟨rank, op, false, false⟩ l m)) r := by
  have BA := hidE (below_alloc w (.cells #[.int .i64 rank, .int .i64 op, .bool false, .bool false] 106))
  have H0 := hidE (ps_kept h BA.out)
  have kf : KeptB w (w.alloc (.cells #[.int .i64 rank, .int .i64 op, .bool false, .bool false] 106)) (fun _ => False) := keptB_of_below BA.out
  have J1 := hidE (join2_any gp gm op ho u v wv l m ws d _ H0.out (nds_kept hu kf (fun k e => e.elim)) (nds_kept hv kf (fun k e => e.elim)))
  have EJ : Hid (jnS ⟨rank, op, false, false⟩ l m = jnD false (jn2 op l m)) := rfl
  have hlt := h.bd.lt
  rw [EJ.out]
  clear h hu hv kf EJ
  generalize hj : jn2 op l m = J at *
  clear hj
  go_enter Tryz.func106, Tryz.ntmps106
  go_wp2_with fail
  refine J1.out.mono ?_
  rintro r w1 ⟨hk, hr⟩
  have K1 := hidE (keptB_q BA.out hk)
  have c3 : w1.cell? ⟨w.heap.size, 3, none⟩ = some (.bool false) := by
    rw [kept_cell hk 3 (by simp) (by omega)]
    simp
  clear J1 hk
  cases J with
  | error c9 =>
    obtain ⟨v', wv', rfl, hc, hp⟩ := hr
    have HP := hidE hp
    have HC := hidE hc
    clear hp hc
    go_wp2_with fail
    go_ret
    exact ⟨K1.out, _, wv', rfl, HC.out, HP.out⟩
  | ok z =>
    obtain ⟨v', wv', rfl, hn, hp⟩ := hr
    have HP := hidE hp
    have HN := hidE hn
    clear hp hn
    go_wp2_with fail
    go_ret
    exact ⟨K1.out, _, wv', rfl, HN.out, HP.out⟩
set_option maxRecDepth 100000 in
theorem joinBy_err01 (gp gm : Nat) (rank op : Int) (u v wv : Value) (ws : Ws) (d e : Int) (he : e ≠ 0) (w : World) (h : PS w gp gm wv ws d e) :
    Calls Tryz.prog 106 #[.pointer (some ⟨gp, 0, none⟩), .agg #[.int .i64 rank, .int .i64 op, .bool false, .bool true], u, v] w fun r w' => ErrR w w' gp gm d e r := by
  have h0 := h.e0 he
  subst h0
  have BA := hidE (below_alloc w (.cells #[.int .i64 rank, .int .i64 op, .bool false, .bool true] 106))
  have H0 := hidE (ps_kept h BA.out)
  have J1 := hidE (join_err gp gm op u v wv [] d e he _ H0.out)
  have HE := hidE he
  clear h he
  go_enter Tryz.func106, Tryz.ntmps106
  go_wp2_with fail
  refine J1.out.mono ?_
  rintro r w1 ⟨rfl, hb⟩
  have B1 := hidE (BA.out.trans (hb.mono BA.out.size))
  have H1 := hidE (ps_kept H0.out hb)
  obtain ⟨jc, jf⟩ := bcell hb
  clear hb J1
  have J2 := hidE (join_err gp gm 4 (.slice none 0 0) (.slice none 0 0) wv [] d e HE.out w1 H1.out)
  go_wp2_with fail
  refine J2.out.mono ?_
  rintro r w2 ⟨rfl, hb⟩
  have B2 := hidE (B1.out.trans (hb.mono B1.out.size))
  have H2 := hidE (ps_kept H1.out hb)
  clear hb J2
  go_wp2_with fail
  go_ret
  exact ⟨keptB_of_below B2.out, _, wv, rfl, rfl, H2.out⟩
set_option maxRecDepth 100000 in
theorem joinBy_ok01 (gp gm : Nat) (rank op : Int) (ho : ar op = 2) (u v wv : Value) (l m : List Nd) (ws : Ws) (d : Int) (w : World) (h : PS w gp gm wv ws d 0) (hu : NdsR w (gp + 1) u l) (hv : NdsR w (gp + 1) v m) :
    Calls Tryz.prog 106 #[.pointer (some ⟨gp, 0, none⟩), .agg #[.int .i64 rank, .int .i64 op, .bool false, .bool true], u, v] w fun r w' => PRR w w' gp gm d (wth ws (jnS ⟨rank, op, false, true⟩ l m)) r := by
  have BA := hidE (below_alloc w (.cells #[.int .i64 rank, .int .i64 op, .bool false, .bool true] 106))
  have H0 := hidE (ps_kept h BA.out)
  have kf : KeptB w (w.alloc (.cells #[.int .i64 rank, .int .i64 op, .bool false, .bool true] 106)) (fun _ => False) := keptB_of_below BA.out
  have J1 := hidE (join2_any gp gm op ho u v wv l m ws d _ H0.out (nds_kept hu kf (fun k e => e.elim)) (nds_kept hv kf (fun k e => e.elim)))
  have EJ : Hid (jnS ⟨rank, op, false, true⟩ l m = jnD true (jn2 op l m)) := rfl
  have hlt := h.bd.lt
  rw [EJ.out]
  clear h hu hv kf EJ
  generalize hj : jn2 op l m = J at *
  clear hj
  go_enter Tryz.func106, Tryz.ntmps106
  go_wp2_with fail
  refine J1.out.mono ?_
  rintro r w1 ⟨hk, hr⟩
  have K1 := hidE (keptB_q BA.out hk)
  have c3 : w1.cell? ⟨w.heap.size, 3, none⟩ = some (.bool true) := by
    rw [kept_cell hk 3 (by simp) (by omega)]
    simp
  clear J1 hk
  cases J with
  | error c9 =>
    obtain ⟨v', wv', rfl, hc, hp⟩ := hr
    have HP := hidE hp
    have HC := hidE hc
    clear hp hc
    have J2 := hidE (join_err gp gm 4 v' (.slice none 0 0) wv' [] d c9 HC.out.1 w1 HP.out)
    go_wp2_with fail
    refine J2.out.mono ?_
    rintro r w2 ⟨rfl, hb⟩
    have K2 := hidE (keptB_trans K1.out (keptB_of_below (bad := fun q => q = gp) hb))
    have H2 := hidE (ps_kept HP.out hb)
    clear hb J2
    go_wp2_with fail
    go_ret
    exact ⟨K2.out, _, wv', rfl, ⟨HC.out.1, rfl⟩, H2.out⟩
  | ok z =>
    obtain ⟨v', wv', rfl, hn, hp⟩ := hr
    have HP := hidE hp
    have HN := hidE hn
    clear hp hn
    have J2 := hidE (join1_any gp gm 4 (by decide) v' wv' z ws d w1 HP.out HN.out)
    go_wp2_with fail
    refine J2.out.mono ?_
    rintro r w2 ⟨hk, hr⟩
    have K2 := hidE (keptB_trans K1.out hk)
    have ED : Hid (jnD true (.ok z) = jn1 4 z) := rfl
    clear J2 hk
    cases hj : jn1 4 z with
    | error c9 =>
      rw [hj] at hr
      obtain ⟨v2, wv2, rfl, hc, hp⟩ := hr
      have HP2 := hidE hp
      have HC := hidE hc
      have HJ := hidE hj
      clear hj hp hc
      go_wp2_with fail
      go_ret
      rw [ED.out, HJ.out]
      exact ⟨K2.out, _, wv2, rfl, HC.out, HP2.out⟩
    | ok z2 =>
      rw [hj] at hr
      obtain ⟨v2, wv2, rfl, hn, hp⟩ := hr
      have HP2 := hidE hp
      have HN2 := hidE hn
      have HJ := hidE hj
      clear hj hp hn
      go_wp2_with fail
      go_ret
      rw [ED.out, HJ.out]
      exact ⟨K2.out, _, wv2, rfl, HN2.out, HP2.out⟩
set_option maxRecDepth 100000 in
theorem joinBy_err10 (gp gm : Nat) (rank op : Int) (u v wv : Value) (ws : Ws) (d e : Int) (he : e ≠ 0) (w : World) (h : PS w gp gm wv ws d e) :
    Calls Tryz.prog 106 #[.pointer (some ⟨gp, 0, none⟩), .agg #[.int .i64 rank, .int .i64 op, .bool true, .bool false], u, v] w fun r w' => ErrR w w' gp gm d e r := by
  have h0 := h.e0 he
  subst h0
  have BA := hidE (below_alloc w (.cells #[.int .i64 rank, .int .i64 op, .bool true, .bool false] 106))
  have H0 := hidE (ps_kept h BA.out)
  have J1 := hidE (join_err gp gm op v u wv [] d e he _ H0.out)
  have HE := hidE he
  clear h he
  go_enter Tryz.func106, Tryz.ntmps106
  go_wp2_with fail
  refine J1.out.mono ?_
  rintro r w1 ⟨rfl, hb⟩
  have B1 := hidE (BA.out.trans (hb.mono BA.out.size))
  have H1 := hidE (ps_kept H0.out hb)
  obtain ⟨jc, jf⟩ := bcell hb
  clear hb J1
  go_wp2_with fail
  go_ret
  exact ⟨keptB_of_below B1.out, _, wv, rfl, rfl, H1.out⟩
set_option maxRecDepth 100000 in
theorem joinBy_ok10 (gp gm : Nat) (rank op : Int) (ho : ar op = 2) (u v wv : Value) (l m : List Nd) (ws : Ws) (d : Int) (w : World) (h : PS w gp gm wv ws d 0) (hu : NdsR w (gp + 1) u l) (hv : NdsR w (gp + 1) v m) :
    Calls Tryz.prog 106 #[.pointer (some ⟨gp, 0, none⟩), .agg #[.int .i64 rank, .int .i64 op, .bool true, .bool false], u, v] w fun r w' => PRR w w' gp gm d (wth ws (jnS ⟨rank, op, true, false⟩ l m)) r := by
  have BA := hidE (below_alloc w (.cells #[.int .i64 rank, .int .i64 op, .bool true, .bool false] 106))
  have H0 := hidE (ps_kept h BA.out)
  have kf : KeptB w (w.alloc (.cells #[.int .i64 rank, .int .i64 op, .bool true, .bool false] 106)) (fun _ => False) := keptB_of_below BA.out
  have J1 := hidE (join2_any gp gm op ho v u wv m l ws d _ H0.out (nds_kept hv kf (fun k e => e.elim)) (nds_kept hu kf (fun k e => e.elim)))
  have EJ : Hid (jnS ⟨rank, op, true, false⟩ l m = jnD false (jn2 op m l)) := rfl
  have hlt := h.bd.lt
  rw [EJ.out]
  clear h hu hv kf EJ
  generalize hj : jn2 op m l = J at *
  clear hj
  go_enter Tryz.func106, Tryz.ntmps106
  go_wp2_with fail
  refine J1.out.mono ?_
  rintro r w1 ⟨hk, hr⟩
  have K1 := hidE (keptB_q BA.out hk)
  have c3 : w1.cell? ⟨w.heap.size, 3, none⟩ = some (.bool false) := by
    rw [kept_cell hk 3 (by simp) (by omega)]
    simp
  clear J1 hk
  cases J with
  | error c9 =>
    obtain ⟨v', wv', rfl, hc, hp⟩ := hr
    have HP := hidE hp
    have HC := hidE hc
    clear hp hc
    go_wp2_with fail
    go_ret
    exact ⟨K1.out, _, wv', rfl, HC.out, HP.out⟩
  | ok z =>
    obtain ⟨v', wv', rfl, hn, hp⟩ := hr
    have HP := hidE hp
    have HN := hidE hn
    clear hp hn
    go_wp2_with fail
    go_ret
    exact ⟨K1.out, _, wv', rfl, HN.out, HP.out⟩
set_option maxRecDepth 100000 in
theorem joinBy_err11 (gp gm : Nat) (rank op : Int) (u v wv : Value) (ws : Ws) (d e : Int) (he : e ≠ 0) (w : World) (h : PS w gp gm wv ws d e) :
    Calls Tryz.prog 106 #[.pointer (some ⟨gp, 0, none⟩), .agg #[.int .i64 rank, .int .i64 op, .bool true, .bool true], u, v] w fun r w' => ErrR w w' gp gm d e r := by
  have h0 := h.e0 he
  subst h0
  have BA := hidE (below_alloc w (.cells #[.int .i64 rank, .int .i64 op, .bool true, .bool true] 106))
  have H0 := hidE (ps_kept h BA.out)
  have J1 := hidE (join_err gp gm op v u wv [] d e he _ H0.out)
  have HE := hidE he
  clear h he
  go_enter Tryz.func106, Tryz.ntmps106
  go_wp2_with fail
  refine J1.out.mono ?_
  rintro r w1 ⟨rfl, hb⟩
  have B1 := hidE (BA.out.trans (hb.mono BA.out.size))
  have H1 := hidE (ps_kept H0.out hb)
  obtain ⟨jc, jf⟩ := bcell hb
  clear hb J1
  have J2 := hidE (join_err gp gm 4 (.slice none 0 0) (.slice none 0 0) wv [] d e HE.out w1 H1.out)
  go_wp2_with fail
  refine J2.out.mono ?_
  rintro r w2 ⟨rfl, hb⟩
  have B2 := hidE (B1.out.trans (hb.mono B1.out.size))
  have H2 := hidE (ps_kept H1.out hb)
  clear hb J2
  go_wp2_with fail
  go_ret
  exact ⟨keptB_of_below B2.out, _, wv, rfl, rfl, H2.out⟩
set_option maxRecDepth 100000 in
theorem joinBy_ok11 (gp gm : Nat) (rank op : Int) (ho : ar op = 2) (u v wv : Value) (l m : List Nd) (ws : Ws) (d : Int) (w : World) (h : PS w gp gm wv ws d 0) (hu : NdsR w (gp + 1) u l) (hv : NdsR w (gp + 1) v m) :
    Calls Tryz.prog 106 #[.pointer (some ⟨gp, 0, none⟩), .agg #[.int .i64 rank, .int .i64 op, .bool true, .bool true], u, v] w fun r w' => PRR w w' gp gm d (wth ws (jnS ⟨rank, op, true, true⟩ l m)) r := by
  have BA := hidE (below_alloc w (.cells #[.int .i64 rank, .int .i64 op, .bool true, .bool true] 106))
  have H0 := hidE (ps_kept h BA.out)
  have kf : KeptB w (w.alloc (.cells #[.int .i64 rank, .int .i64 op, .bool true, .bool true] 106)) (fun _ => False) := keptB_of_below BA.out
  have J1 := hidE (join2_any gp gm op ho v u wv m l ws d _ H0.out (nds_kept hv kf (fun k e => e.elim)) (nds_kept hu kf (fun k e => e.elim)))
  have EJ : Hid (jnS ⟨rank, op, true, true⟩ l m = jnD true (jn2 op m l)) := rfl
  have hlt := h.bd.lt
  rw [EJ.out]
  clear h hu hv kf EJ
  generalize hj : jn2 op m l = J at *
  clear hj
  go_enter Tryz.func106, Tryz.ntmps106
  go_wp2_with fail
  refine J1.out.mono ?_
  rintro r w1 ⟨hk, hr⟩
  have K1 := hidE (keptB_q BA.out hk)
  have c3 : w1.cell? ⟨w.heap.size, 3, none⟩ = some (.bool true) := by
    rw [kept_cell hk 3 (by simp) (by omega)]
    simp
  clear J1 hk
  cases J with
  | error c9 =>
    obtain ⟨v', wv', rfl, hc, hp⟩ := hr
    have HP := hidE hp
    have HC := hidE hc
    clear hp hc
    have J2 := hidE (join_err gp gm 4 v' (.slice none 0 0) wv' [] d c9 HC.out.1 w1 HP.out)
    go_wp2_with fail
    refine J2.out.mono ?_
    rintro r w2 ⟨rfl, hb⟩
    have K2 := hidE (keptB_trans K1.out (keptB_of_below (bad := fun q => q = gp) hb))
    have H2 := hidE (ps_kept HP.out hb)
    clear hb J2
    go_wp2_with fail
    go_ret
    exact ⟨K2.out, _, wv', rfl, ⟨HC.out.1, rfl⟩, H2.out⟩
  | ok z =>
    obtain ⟨v', wv', rfl, hn, hp⟩ := hr
    have HP := hidE hp
    have HN := hidE hn
    clear hp hn
    have J2 := hidE (join1_any gp gm 4 (by decide) v' wv' z ws d w1 HP.out HN.out)
    go_wp2_with fail
    refine J2.out.mono ?_
    rintro r w2 ⟨hk, hr⟩
    have K2 := hidE (keptB_trans K1.out hk)
    have ED : Hid (jnD true (.ok z) = jn1 4 z) := rfl
    clear J2 hk
    cases hj : jn1 4 z with
    | error c9 =>
      rw [hj] at hr
      obtain ⟨v2, wv2, rfl, hc, hp⟩ := hr
      have HP2 := hidE hp
      have HC := hidE hc
      have HJ := hidE hj
      clear hj hp hc
      go_wp2_with fail
      go_ret
      rw [ED.out, HJ.out]
      exact ⟨K2.out, _, wv2, rfl, HC.out, HP2.out⟩
    | ok z2 =>
      rw [hj] at hr
      obtain ⟨v2, wv2, rfl, hn, hp⟩ := hr
      have HP2 := hidE hp
      have HN2 := hidE hn
      have HJ := hidE hj
      clear hj hp hn
      go_wp2_with fail
      go_ret
      rw [ED.out, HJ.out]
      exact ⟨K2.out, _, wv2, rfl, HN2.out, HP2.out⟩
theorem joinBy_err (gp gm : Nat) (s : Sg) (u v wv : Value) (ws : Ws) (d e : Int) (he : e ≠ 0) (w : World) (h : PS w gp gm wv ws d e) :
    Calls Tryz.prog 106 #[.pointer (some ⟨gp, 0, none⟩), sgV s, u, v] w fun r w' => ErrR w w' gp gm d e r := by
  obtain ⟨rank, op, tn, dn⟩ := s
  cases tn <;> cases dn
  · exact joinBy_err00 gp gm rank op u v wv ws d e he w h
  · exact joinBy_err01 gp gm rank op u v wv ws d e he w h
  · exact joinBy_err10 gp gm rank op u v wv ws d e he w h
  · exact joinBy_err11 gp gm rank op u v wv ws d e he w h
theorem joinBy_ok (gp gm : Nat) (s : Sg) (ho : ar s.op = 2) (u v wv : Value) (l m : List Nd) (ws : Ws) (d : Int) (w : World) (h : PS w gp gm wv ws d 0) (hu : NdsR w (gp + 1) u l) (hv : NdsR w (gp + 1) v m) :
    Calls Tryz.prog 106 #[.pointer (some ⟨gp, 0, none⟩), sgV s, u, v] w fun r w' => PRR w w' gp gm d (wth ws (jnS s l m)) r := by
  obtain ⟨rank, op, tn, dn⟩ := s
  cases tn <;> cases dn
  · exact joinBy_ok00 gp gm rank op ho u v wv l m ws d w h hu hv
  · exact joinBy_ok01 gp gm rank op ho u v wv l m ws d w h hu hv
  · exact joinBy_ok10 gp gm rank op ho u v wv l m ws d w h hu hv
  · exact joinBy_ok11 gp gm rank op ho u v wv l m ws d w h hu hv
end Go.Proofs.YtaomljdbndajgaaGreatDoor

/- The law ExprSays, over this seat's translation: under way. Conditions: none. -/
import Derived.Test.YtchddjlbjldnpaaRefEF
import Derived.Test.YtchddjlbjldnpaaRefEvF
import Derived.Test.YtchddjlbjldnpaaRefTC
import Derived.Test.YtchddjlbjldnpaaSame
namespace Go.Proofs.Ytchddjlbjldnpaa
open Go.ChangeShapes Go.WideShapes Go.ChangeAt Go.RowKit
set_option linter.unusedVariables false
set_option linter.unusedSimpArgs false
attribute [local go_sem ↓] eql_value neq_value

theorem same_errC (c f : Int) (w : World) (hc : 0 ≤ c) : Calls Try.prog 13 #[errC c, .int .i64 f] w fun e w' => e = .returned (.bool (c == f)) ∧ w' = w := by
  unfold errC
  by_cases h : c = 0
  · subst h
    rw [if_pos rfl]
    have e : ((0 : Int) == f) = (f == 0) := by rw [Bool.eq_iff_iff]; simp only [beq_iff_eq]; omega
    rw [e]
    exact same_nil f w
  · rw [if_neg h]
    exact same_err c f w (by omega)

theorem okN_pos (n : Nd) : 0 ≤ okN n := by
  unfold okN
  repeat' split
  all_goals decide
theorem chkF_pos : ∀ (l : List Nd) (bs : List Nat), 0 ≤ (chkF l bs).1
  | [], bs => by simp [chkF]
  | n :: l, bs => by
    unfold chkF
    split
    · exact okN_pos n
    · split
      · show (0 : Int) ≤ 3; decide
      · exact chkF_pos l _
theorem chkE_pos (l : List Nd) : 0 ≤ chkE l := by
  unfold chkE
  repeat' split
  all_goals first | exact chkF_pos l [] | decide

theorem tyE_pos (l : List Nd) : 0 ≤ (tyE l).2 := by
  unfold tyE
  split
  · decide
  · split <;> simp

/-- 'n & 1023', and what is left of it by a length -/
theorem place_is (n : Int) (k : Nat) (hk : 0 < k) : ∃ e : Nat, e < k ∧ (bits .and .i64 n 1023).tmod (k : Int) = (e : Int) := by
  have h0 : 0 ≤ bits .and .i64 n 1023 := by
    show 0 ≤ IntKind.i64.wrap ((BitVec.ofInt 64 n &&& BitVec.ofInt 64 1023).toNat : Int)
    have h2 : (BitVec.ofInt 64 1023).toNat = 1023 := by decide
    have h : (BitVec.ofInt 64 n).toNat &&& 1023 ≤ 1023 := Nat.and_le_right
    rw [BitVec.toNat_and, h2, IntKind.wrap_i64]
    omega
  have h1 := Int.tmod_nonneg (k : Int) h0
  have h2 := Int.tmod_lt_of_pos (bits .and .i64 n 1023) (by omega : (0 : Int) < k)
  exact ⟨((bits .and .i64 n 1023).tmod (k : Int)).toNat, by omega, by omega⟩
theorem cut_len (l : List Nd) (b e : Nat) (hb : b ≤ e) (he : e < l.length) : (cutL l b e).length = e + 1 - b := by
  unfold cutL
  simp
  omega
theorem cut_good {l : List Nd} {bs : List Nat} (h : Good l bs) (e : Nat) (he : e < l.length) (h40 : l.length ≤ 40) : chkE (cutL l (bs.getD e 0) e) = 0 := by
  have hb := good_le h e he
  have hl := cut_len l (bs.getD e 0) e hb he
  refine chk_of_good (good_cut h e he) (by rw [hl]; omega) (by rw [hl]; omega) ?_
  rw [hl, List.getElem?_map, List.getElem?_drop, List.getElem?_take_of_lt (by omega), show bs.getD e 0 + (e + 1 - bs.getD e 0 - 1) = e from by omega]
  have hi : e < bs.length := by rw [h.1]; exact he
  rw [List.getD_eq_getElem?_getD, List.getElem?_eq_getElem hi]
  simp
theorem cut_op (l : List Nd) (b e : Nat) (hb : b ≤ e) (he : e < l.length) : ∃ n, (cutL l b e)[e - b]? = some n ∧ n.op = l[e].op := by
  refine ⟨mv (-(b : Int)) l[e], ?_, mv_op _ _⟩
  unfold cutL
  rw [List.getElem?_map, List.getElem?_drop, List.getElem?_take_of_lt (by omega), show b + (e - b) = e from by omega, List.getElem?_eq_getElem he]
  rfl

/-- the closed fact's nodes -/
def threeN : List Nd := [⟨2, 0, 0, 2, 0, 0⟩, ⟨1, 0, 0, 0, 1, 5⟩, ⟨6, 0, 1, 0, 0, 0⟩]
theorem three_chk : chkE threeN = 0 := by decide
theorem three_ev : evL opV (evE 0 0 0 1 3 0 0) threeN = (1, 8) := by decide
theorem three_ok : ∀ n ∈ threeN, okN n = 0 := by decide

theorem rowG_lit18 (w : World) (g : Nat) (hg : g = w.heap.size) : RowG (w.alloc (.cells #[.int .i64 2, .int .i64 0, .int .i64 0, .int .i64 2, .int .i64 0, .int .i64 0, .int .i64 1, .int .i64 0, .int .i64 0, .int .i64 0, .int .i64 1, .int .i64 5, .int .i64 6, .int .i64 0, .int .i64 1, .int .i64 0, .int .i64 0, .int .i64 0] 50)) (.slice (some ⟨g, 0, none⟩) 3 3) 6 3 (rowN threeN) := by
  subst hg
  have h := World.ownsRow_lit (base := 0) (size := 6) (e := 50) w #[.int .i64 2, .int .i64 0, .int .i64 0, .int .i64 2, .int .i64 0, .int .i64 0, .int .i64 1, .int .i64 0, .int .i64 0, .int .i64 0, .int .i64 1, .int .i64 5, .int .i64 6, .int .i64 0, .int .i64 1, .int .i64 0, .int .i64 0, .int .i64 0] 3 (Nat.zero_le _) (by decide) rfl
  exact rowG_of_owns h

set_option maxRecDepth 100000 in
theorem exprs_closed (w : World) : Calls Try.prog 15 #[] w fun e w' => e = .returned (.bool true) ∧ Below w.heap.size w w' := by
  have HR := hidE (rowG_lit18 w w.heap.size rfl)
  have HW : Hid (Below w.heap.size w (w.alloc (.cells #[.int .i64 2, .int .i64 0, .int .i64 0, .int .i64 2, .int .i64 0, .int .i64 0, .int .i64 1, .int .i64 0, .int .i64 0, .int .i64 0, .int .i64 1, .int .i64 5, .int .i64 6, .int .i64 0, .int .i64 1, .int .i64 0, .int .i64 0, .int .i64 0] 50))) := (Below.refl _ _).alloc (Nat.le_refl _) _
  have hk := check_any threeN (.slice (some ⟨w.heap.size, 0, none⟩) 3 3) (w.alloc (.cells #[.int .i64 2, .int .i64 0, .int .i64 0, .int .i64 2, .int .i64 0, .int .i64 0, .int .i64 1, .int .i64 0, .int .i64 0, .int .i64 0, .int .i64 1, .int .i64 5, .int .i64 6, .int .i64 0, .int .i64 1, .int .i64 0, .int .i64 0, .int .i64 0] 50)) (by decide) HR.out
  rw [three_chk] at hk
  have HK : Hid (Calls Try.prog 20 #[.slice (some ⟨w.heap.size, 0, none⟩) 3 3] (w.alloc (.cells #[.int .i64 2, .int .i64 0, .int .i64 0, .int .i64 2, .int .i64 0, .int .i64 0, .int .i64 1, .int .i64 0, .int .i64 0, .int .i64 0, .int .i64 1, .int .i64 5, .int .i64 6, .int .i64 0, .int .i64 1, .int .i64 0, .int .i64 0, .int .i64 0] 50)) fun e w' => e = .returned .nilIface ∧ Below (w.alloc (.cells #[.int .i64 2, .int .i64 0, .int .i64 0, .int .i64 2, .int .i64 0, .int .i64 0, .int .i64 1, .int .i64 0, .int .i64 0, .int .i64 0, .int .i64 1, .int .i64 5, .int .i64 6, .int .i64 0, .int .i64 1, .int .i64 0, .int .i64 0, .int .i64 0] 50)).heap.size (w.alloc (.cells #[.int .i64 2, .int .i64 0, .int .i64 0, .int .i64 2, .int .i64 0, .int .i64 0, .int .i64 1, .int .i64 0, .int .i64 0, .int .i64 0, .int .i64 1, .int .i64 5, .int .i64 6, .int .i64 0, .int .i64 1, .int .i64 0, .int .i64 0, .int .i64 0] 50)) w') := hk
  have HE : Hid (∀ w', Below (w.alloc (.cells #[.int .i64 2, .int .i64 0, .int .i64 0, .int .i64 2, .int .i64 0, .int .i64 0, .int .i64 1, .int .i64 0, .int .i64 0, .int .i64 0, .int .i64 1, .int .i64 5, .int .i64 6, .int .i64 0, .int .i64 1, .int .i64 0, .int .i64 0, .int .i64 0] 50)).heap.size (w.alloc (.cells #[.int .i64 2, .int .i64 0, .int .i64 0, .int .i64 2, .int .i64 0, .int .i64 0, .int .i64 1, .int .i64 0, .int .i64 0, .int .i64 0, .int .i64 1, .int .i64 5, .int .i64 6, .int .i64 0, .int .i64 1, .int .i64 0, .int .i64 0, .int .i64 0] 50)) w' → Calls Try.prog 24 #[.slice (some ⟨w.heap.size, 0, none⟩) 3 3, aggE 0 0 0 1 3 0 0] w' fun e w'' => e = .returned (.agg #[.int .i64 1, .int .i64 8]) ∧ Below w'.heap.size w' w'') := fun w' hb => by
    have h := eval_any threeN (.slice (some ⟨w.heap.size, 0, none⟩) 3 3) 0 0 0 1 3 0 0 w' (by decide) (rowG_below HR.out hb) three_ok (may_ok (by decide))
    rw [three_ev] at h
    exact h
  unfold aggE at HE
  clear hk
  go_enter Try.func15, Try.ntmps15
  go_wp2_with fail
  refine HK.out.mono ?_
  rintro e w1 ⟨rfl, hb⟩
  have HB := hidE hb
  clear hb
  go_wp2_with (first | (go_at_call 13; refine (same_nil _ _).mono ?_; rintro e w' ⟨rfl, hw⟩; subst w') | (go_at_call 24; refine (HE.out _ HB.out).mono ?_; rintro e w2 ⟨rfl, hb⟩; have HB := nxt HB hb; clear hb))
  go_ret
  exact ⟨rfl, done HW.out HB⟩

set_option maxRecDepth 100000 in
set_option maxHeartbeats 4000000 in
theorem exprSays_walk (l m : List Nd) (at_ t k1 k2 a1 a2 b1 b2 : Int) (u v : Value) (w : World) (hu : RowG w u 6 l.length (rowN l)) (hv : RowG w v 6 m.length (rowN m)) (hl : l.length ≤ maxLen) (hm : m.length ≤ maxLen) :
    Calls Try.prog 4 #[u, v, aggE t k1 k2 a1 a2 b1 b2, .int .i64 at_] w fun e w' => e = .returned (.bool true) ∧ Below w.heap.size w w' := by
  obtain ⟨ao, cap, rfl⟩ := rowG_shape hu
  obtain ⟨ao2, cap2, rfl⟩ := rowG_shape hv
  have HU := hidE hu
  have HV := hidE hv
  clear hu hv
  unfold maxLen at hl hm
  have HE : Hid (Below w.heap.size w (w.alloc (.cells #[.int .i64 t, .int .i64 k1, .int .i64 k2, .int .i64 a1, .int .i64 a2, .int .i64 b1, .int .i64 b2] 37))) := (Below.refl _ _).alloc (Nat.le_refl _) _
  unfold aggE
  go_enter Try.func4, Try.ntmps4
  go_wp2_with fail
  refine (exprs_closed _).mono ?_
  rintro e w1 ⟨rfl, hb⟩
  have HB := hidE hb
  obtain ⟨hc, hf⟩ := rules HB
  clear hb
  go_wp2_with fail
  refine (light_any _ _ _ _ (by show _ ≤ 2 ^ 63 - 1; omega)).mono ?_
  rintro e w' ⟨rfl, hw⟩
  subst w'
  by_cases hL : l.length ≤ 50
  case neg =>
    have dL : decide (l.length ≤ 50) = false := by simpa using hL
    rw [dL]
    go_wp2_with fail
    go_ret
    exact ⟨rfl, done HE.out HB⟩
  rw [decide_eq_true hL]
  go_wp2_with fail
  refine (light_any _ _ _ _ (by show _ ≤ 2 ^ 63 - 1; omega)).mono ?_
  rintro e w' ⟨rfl, hw⟩
  subst w'
  by_cases hM : m.length ≤ 50
  case neg =>
    have dM : decide (m.length ≤ 50) = false := by simpa using hM
    rw [dM]
    go_wp2_with fail
    go_ret
    exact ⟨rfl, done HE.out HB⟩
  rw [decide_eq_true hM]
  go_wp2_with fail
  have CL := hidE (fun w' hb => check_any l (.slice ao l.length cap) w' (by omega) (rowG_below (rowG_below HU.out HE.out) hb))
  have FL := hidE (fun w' hb => exprFault_any l (.slice ao l.length cap) w' (by omega) (rowG_below (rowG_below HU.out HE.out) hb))
  have FM := hidE (fun w' hb => exprFault_any m (.slice ao2 m.length cap2) w' (by omega) (rowG_below (rowG_below HV.out HE.out) hb))
  go_loop [10] (fun i => ∃ q : Int, -1 ≤ q ∧ q ≤ 15 ∧ i = .int .i64 q) (fun i => (15 - intOf i).toNat)
  case atStart => exact ⟨-1, by decide, by decide, rfl⟩
  case round =>
    obtain ⟨q, q1, q2, rfl⟩ := hrel
    by_cases hq : q < 15
    · have z : (ar q != ar q) = false := by simp
      go_wp2_with (first | (go_at_call 17; refine (arity_any _ _).mono ?_; rintro e w' ⟨rfl, hw⟩; subst w') | (go_at_call 18; refine (rarity_any _ _).mono ?_; rintro e w' ⟨rfl, hw⟩; subst w'))
      go_round
      case rel => exact ⟨q + 1, by omega, by omega, by go_num⟩
      case measure => simp [intOf]; omega
    go_wp2_with fail
    refine (FL.out _ HB.out).mono ?_
    rintro e wn ⟨rfl, hb⟩
    have HB := nxt HB hb
    obtain ⟨hc, hf⟩ := rules HB
    clear hb
    go_wp2_with fail
    refine (CL.out _ HB.out).mono ?_
    rintro e wn ⟨rfl, hb⟩
    have HB := nxt HB hb
    obtain ⟨hc, hf⟩ := rules HB
    clear hb
    have h0 : 0 ≤ chkE l := chkE_pos l
    have HP := hidE h0
    go_wp2_with fail
    refine (same_errC (chkE l) (chkE l) _ HP.out).mono ?_
    rintro e w' ⟨rfl, hw⟩
    subst w'
    have zz : (chkE l == chkE l) = true := by simp
    rw [zz]
    clear zz
    by_cases cl : chkE l = 0
    case neg =>
      have c1 : 0 < chkE l := by omega
      go_wp2_with fail
      go_ret
      exact ⟨rfl, done HE.out HB⟩
    have HCL := hidE cl
    rw [cl]
    clear cl h0 HP
    go_wp2_with fail
    refine (FM.out _ HB.out).mono ?_
    rintro e wn ⟨rfl, hb⟩
    have HB := nxt HB hb
    obtain ⟨hc, hf⟩ := rules HB
    clear hb
    have h0 : 0 ≤ chkE m := chkE_pos m
    by_cases cm : chkE m = 0
    case neg =>
      have c1 : 0 < chkE m := by omega
      go_wp2_with fail
      go_ret
      exact ⟨rfl, done HE.out HB⟩
    have HCM := hidE cm
    rw [cm]
    clear cm h0
    have EF := hidE (fun w => evFault_any t k1 k2 a1 a2 b1 b2 w)
    unfold aggE at EF
    go_wp2_with fail
    refine (EF.out _).mono ?_
    rintro e wn ⟨c, rfl, c0, cy, hb⟩
    have HB := nxt HB hb
    obtain ⟨hc, hf⟩ := rules HB
    clear hb
    by_cases cz : c = 0
    case neg =>
      have c1 : 0 < c := by omega
      clear cy cz
      go_wp2_with fail
      go_ret
      exact ⟨rfl, done HE.out HB⟩
    subst cz
    have HMY := hidE (cy rfl)
    clear cy c0 EF FL FM CL
    obtain ⟨bl, gl, l40, l0, lb⟩ := good_of_chk HCL.out
    obtain ⟨bm, gm, m40, m0, mb⟩ := good_of_chk HCM.out
    have EV := hidE (may_ok HMY.out)
    have RU := hidE (rowG_below HU.out HE.out)
    have RV := hidE (rowG_below HV.out HE.out)
    have TY := hidE (fun w' hb => type_any l (.slice ao l.length cap) w' (by omega) (rowG_below RU.out hb))
    have RT := hidE (fun w' hb => rtype_any l bl (.slice ao l.length cap) w' (by omega) l0 gl (getD_of lb) (rowG_below RU.out hb))
    have GL := hidE gl
    have GM := hidE gm
    have LB := hidE lb
    have MB := hidE mb
    clear gl gm lb mb
    go_wp2_with fail
    refine (TY.out _ HB.out).mono ?_
    rintro e wn ⟨rfl, hb⟩
    have HB := nxt HB hb
    obtain ⟨hc, hf⟩ := rules HB
    clear hb
    go_wp2_with fail
    refine (RT.out _ HB.out).mono ?_
    rintro e wn ⟨rfl, hb⟩
    have HB := nxt HB hb
    obtain ⟨hc, hf⟩ := rules HB
    clear hb
    go_wp2_with fail
    have SM : Hid (∀ w, Calls Try.prog 13 #[errC (tyE l).2, .int .i64 (tyE l).2] w fun e w' => e = .returned (.bool true) ∧ w' = w) := by
      intro w
      have h := same_errC (tyE l).2 (tyE l).2 w (tyE_pos l)
      have zz : ((tyE l).2 == (tyE l).2) = true := by simp
      rw [zz] at h
      exact h
    have E1 : Hid (∀ w', Below (w.alloc (.cells #[.int .i64 t, .int .i64 k1, .int .i64 k2, .int .i64 a1, .int .i64 a2, .int .i64 b1, .int .i64 b2] 37)).heap.size (w.alloc (.cells #[.int .i64 t, .int .i64 k1, .int .i64 k2, .int .i64 a1, .int .i64 a2, .int .i64 b1, .int .i64 b2] 37)) w' → Calls Try.prog 24 #[.slice ao l.length cap, .agg #[.int .i64 t, .int .i64 k1, .int .i64 k2, .int .i64 a1, .int .i64 a2, .int .i64 b1, .int .i64 b2]] w' fun e w'' => e = .returned (.agg #[.int .i64 (evL opV (evE t k1 k2 a1 a2 b1 b2) l).1, .int .i64 (evL opV (evE t k1 k2 a1 a2 b1 b2) l).2]) ∧ Below w'.heap.size w' w'') := fun w' hb => eval_any l _ t k1 k2 a1 a2 b1 b2 w' (by omega) (rowG_below RU.out hb) (good_ok GL.out) EV.out
    have E2 : Hid (∀ w', Below (w.alloc (.cells #[.int .i64 t, .int .i64 k1, .int .i64 k2, .int .i64 a1, .int .i64 a2, .int .i64 b1, .int .i64 b2] 37)).heap.size (w.alloc (.cells #[.int .i64 t, .int .i64 k1, .int .i64 k2, .int .i64 a1, .int .i64 a2, .int .i64 b1, .int .i64 b2] 37)) w' → Calls Try.prog 25 #[.slice ao l.length cap, .agg #[.int .i64 t, .int .i64 k1, .int .i64 k2, .int .i64 a1, .int .i64 a2, .int .i64 b1, .int .i64 b2]] w' fun e w'' => e = .returned (.agg #[.int .i64 (evL opV (evE t k1 k2 a1 a2 b1 b2) l).1, .int .i64 (evL opV (evE t k1 k2 a1 a2 b1 b2) l).2]) ∧ Below w'.heap.size w' w'') := fun w' hb => reval_any l bl _ t k1 k2 a1 a2 b1 b2 w' (by omega) l0 GL.out EV.out (rowG_below RU.out hb)
    have K1 : Hid (∀ p : Kin wn, Below (w.alloc (.cells #[.int .i64 t, .int .i64 k1, .int .i64 k2, .int .i64 a1, .int .i64 a2, .int .i64 b1, .int .i64 b2] 37)).heap.size (w.alloc (.cells #[.int .i64 t, .int .i64 k1, .int .i64 k2, .int .i64 a1, .int .i64 a2, .int .i64 b1, .int .i64 b2] 37)) p.w) := fun p => (nxt HB p.h).out
    have E4 : Hid (∀ w', Below (w.alloc (.cells #[.int .i64 t, .int .i64 k1, .int .i64 k2, .int .i64 a1, .int .i64 a2, .int .i64 b1, .int .i64 b2] 37)).heap.size (w.alloc (.cells #[.int .i64 t, .int .i64 k1, .int .i64 k2, .int .i64 a1, .int .i64 a2, .int .i64 b1, .int .i64 b2] 37)) w' → Calls Try.prog 25 #[.slice ao2 m.length cap2, .agg #[.int .i64 t, .int .i64 k1, .int .i64 k2, .int .i64 a1, .int .i64 a2, .int .i64 b1, .int .i64 b2]] w' fun e w'' => e = .returned (.agg #[.int .i64 (evL opV (evE t k1 k2 a1 a2 b1 b2) m).1, .int .i64 (evL opV (evE t k1 k2 a1 a2 b1 b2) m).2]) ∧ Below w'.heap.size w' w'') := fun w' hb => reval_any m bm _ t k1 k2 a1 a2 b1 b2 w' (by omega) m0 GM.out EV.out (rowG_below RV.out hb)
    have OX := hidE (ok_evL EV.out (good_ok GL.out))
    have OY := hidE (ok_evL EV.out (good_ok GM.out))
    have EJ := hidE (ev_join opV (evE t k1 k2 a1 a2 b1 b2) 9 l m bm GM.out l0 m0 (by decide))
    have EI := hidE (ev_join1 opV (evE t k1 k2 a1 a2 b1 b2) 5 l (by decide))
    rw [opV_two (by decide)] at EJ
    generalize errC (tyE l).2 = ev' at *
    generalize tyE l = ty at *
    generalize evL opV (evE t k1 k2 a1 a2 b1 b2) l = X at *
    generalize evL opV (evE t k1 k2 a1 a2 b1 b2) m = Y at *
    obtain ⟨x1, x2⟩ := X
    obtain ⟨y1, y2⟩ := Y
    obtain ⟨ty1, ty2⟩ := ty
    simp only at E1 E2 E4 EJ SM ⊢
    have z1 : (ty1 != ty1) = false := by simp
    have kn := kin_some wn
    obtain ⟨kc, kf⟩ := kin_rules wn
    have hwn : w.heap.size < wn.heap.size := by
      have := HB.out.size
      simp only [World.size_alloc] at this
      omega
    have HBw : Hid (Below wn.heap.size wn wn) := Below.refl _ _
    refine wp_region_kin HBw (by kernel_rfl) (by kernel_rfl) ?_
    repeat (go_big_quiet_step ((first | (go_at_call 13; exact kin_same (SM.out _)) | (go_at_call 24; exact kin_of (E1.out _ (K1.out _))) | (go_at_call 25; exact kin_of (E2.out _ (K1.out _))))))
    refine wpQuiet_nil ?_
    rintro _ ⟨pk, rfl⟩
    have HB := nxt HB pk.h
    clear kc kf kn HBw hc hf K1
    generalize pk.w = wn at *
    clear pk
    obtain ⟨hc, hf⟩ := rules HB
    go_wp2_with fail
    obtain ⟨ee, he, hee⟩ := place_is at_ l.length l0
    rw [hee]
    clear hee
    refine (cut_any l bl ee _ wn (by omega) GL.out he (rowG_below RU.out HB.out) (good_mvb GL.out (by omega))).mono ?_
    rintro e wc ⟨uc, rfl, hoc, hb⟩
    have HB := nxt HB hb
    obtain ⟨hc, hf⟩ := rules HB
    clear hb
    have RC := rowG_of_owns hoc
    have hcl := cut_len l (bl.getD ee 0) ee (good_le GL.out ee he) he
    have GC := hidE (cut_good GL.out ee he (by omega))
    have LO := hidE (cut_op l (bl.getD ee 0) ee (good_le GL.out ee he) he)
    generalize cutL l (bl.getD ee 0) ee = cl at *
    obtain ⟨dc, hdc⟩ : ∃ dc, ee - bl.getD ee 0 = dc := ⟨_, rfl⟩
    have hcl2 : cl.length = dc + 1 := by have := good_le GL.out ee he; omega
    rw [hdc] at LO
    obtain ⟨nc, hnc, hop⟩ := LO.out
    obtain ⟨aoc, capc, rfl⟩ := rowG_shape RC
    obtain ⟨gc, offc, hao, hcc, hc1, hc2, hgc⟩ := rowN_node RC dc (by omega)
    subst hao
    rw [(List.getElem?_eq_some_iff.1 hnc).2] at hcc
    have cC := hcc.1
    rw [hop] at cC
    obtain ⟨g, off, hao, hll, hl1, hl2, hgl⟩ := rowN_node (rowG_below RU.out HB.out) ee he
    subst hao
    have cL := hll.1
    have E3 : Hid (∀ p : Kin wc, Calls Try.prog 19 #[.slice (some ⟨gc, offc, none⟩) (dc + 1) capc] p.w fun e w'' => e = .returned (.int .i64 0) ∧ Below p.w.heap.size p.w w'') := fun p => by
      have h := exprFault_any cl (.slice (some ⟨gc, offc, none⟩) cl.length capc) p.w (by omega) (rowG_below RC p.h)
      rw [GC.out, hcl2] at h
      exact h
    have hdc4 : dc ≤ 40 := by omega
    have zl : decide (l.length < dc + 1) = false := by simp; omega
    have zl2 : decide ((l.length : Int) < (dc : Int) + 1) = false := by simp; omega
    generalize l[ee].op = oo at *
    have zo : (oo != oo) = false := by simp
    rw [hcl2]
    clear RC hoc hcc hll hnc hop LO GC hcl2 hdc hcl
    unfold maxLen at hc2 hl2
    have kn := kin_some wc
    obtain ⟨kc, kf⟩ := kin_rules wc
    have HBw : Hid (Below wc.heap.size wc wc) := Below.refl _ _
    go_wp2_with fail
    refine wp_region_kin HBw (by kernel_rfl) (by kernel_rfl) ?_
    repeat (go_big_quiet_step ((go_at_call 19; exact kin_of (E3.out _))))
    refine wpQuiet_nil ?_
    rintro _ ⟨pk, rfl⟩
    have HB := nxt HB pk.h
    clear kc kf kn HBw hc hf E3
    generalize pk.w = wn at *
    clear pk
    obtain ⟨hc, hf⟩ := rules HB
    go_wp2_with fail
    refine (join_two 9 l m _ _ wn (by omega) (by omega) (rowG_below RU.out HB.out) (rowG_below RV.out HB.out) (good_mvb GL.out (by omega)) (good_mvb GM.out (by omega)) (by decide)).mono ?_
    rintro e wj ⟨uj, rfl, hoj, hb⟩
    have HB := nxt HB hb
    obtain ⟨hc, hf⟩ := rules HB
    clear hb
    have RJ := hidE (rowG_of_owns hoj)
    have hjl : (joinL 9 l m).length = l.length + m.length + 1 := by simp [joinL]; omega
    have GJ := hidE (good_joinL (op := 9) GL.out GM.out l0 m0 LB.out MB.out (by decide))
    have CJ : Hid ((joinL 9 l m).length ≤ 40 → chkE (joinL 9 l m) = 0) := fun h => chk_of_good GJ.out h (by omega) (by
      have e1 : (bl ++ bm.map (· + l.length)).length = l.length + m.length := by simp [GL.out.1, GM.out.1]
      rw [hjl, Nat.add_sub_cancel, ← e1]
      simp)
    have EJ2 : Hid (∀ p : World, Below wj.heap.size wj p → Calls Try.prog 25 #[uj, .agg #[.int .i64 t, .int .i64 k1, .int .i64 k2, .int .i64 a1, .int .i64 a2, .int .i64 b1, .int .i64 b2]] p fun e w'' => e = .returned (.agg #[.int .i64 (doV 9 x1 x2 y1 y2).1, .int .i64 (doV 9 x1 x2 y1 y2).2]) ∧ Below p.heap.size p w'') := fun p hb => by
      have h := reval_any (joinL 9 l m) _ uj t k1 k2 a1 a2 b1 b2 p (by omega) (by omega) GJ.out EV.out (rowG_below RJ.out hb)
      rw [EJ.out] at h
      exact h
    have EF2 : Hid (∀ p : World, Below wj.heap.size wj p → (joinL 9 l m).length ≤ 40 → Calls Try.prog 19 #[uj] p fun e w'' => e = .returned (.int .i64 0) ∧ Below p.heap.size p w'') := fun p hb h40 => by
      have h := exprFault_any (joinL 9 l m) uj p (by omega) (rowG_below RJ.out hb)
      rw [CJ.out h40] at h
      exact h
    have RD := hidE (fun p => rdo_any 9 x1 x2 y1 y2 p OX.out OY.out)
    obtain ⟨aoj, capj, rfl⟩ := rowG_shape RJ.out
    generalize doV 9 x1 x2 y1 y2 = Z at *
    obtain ⟨z1, z2⟩ := Z
    simp only at EJ2 RD
    obtain ⟨nj, hnj⟩ : ∃ nj, (joinL 9 l m).length = nj := ⟨_, rfl⟩
    rw [hnj] at EJ2 EF2
    rw [hnj]
    have nb : nj ≤ 200 := by omega
    have zj : ((nj : Int) != (l.length : Int) + (m.length : Int) + 1) = false := by simp; omega
    clear hoj RJ GJ CJ EJ hjl hnj
    have HJ : Hid (Below wj.heap.size wj wj) := Below.refl _ _
    go_wp2_with fail
    refine (E2.out _ HB.out).mono ?_
    rintro e wk ⟨rfl, hb⟩
    have HB := nxta (nxt HB hb) (.cells #[.int .i64 x1, .int .i64 x2] 35)
    have HJ := nxta (nxt HJ hb) (.cells #[.int .i64 x1, .int .i64 x2] 35)
    obtain ⟨hc, hf⟩ := rules HB
    clear hb
    have xc0 : (wk.alloc (.cells #[.int .i64 x1, .int .i64 x2] 35)).cell? ⟨wk.heap.size, 0, none⟩ = some (.int .i64 x1) := by go_simp
    have xc1 : (wk.alloc (.cells #[.int .i64 x1, .int .i64 x2] 35)).cell? ⟨wk.heap.size, 1, none⟩ = some (.int .i64 x2) := by go_simp
    have xh : wk.heap.size < (wk.alloc (.cells #[.int .i64 x1, .int .i64 x2] 35)).heap.size := by simp
    go_wp2_with fail
    refine (E4.out _ HB.out).mono ?_
    rintro e wn ⟨rfl, hb⟩
    have HB := nxta (nxt HB hb) (.cells #[.int .i64 y1, .int .i64 y2] 35)
    have HJ := nxta (nxt HJ hb) (.cells #[.int .i64 y1, .int .i64 y2] 35)
    have hb := hb.alloc hb.size (.cells #[.int .i64 y1, .int .i64 y2] 35)
    rw [← hb.cell (p := ⟨wk.heap.size, 0, none⟩) xh] at xc0
    rw [← hb.cell (p := ⟨wk.heap.size, 1, none⟩) xh] at xc1
    have xh := Nat.lt_of_lt_of_le xh hb.size
    obtain ⟨hc, hf⟩ := rules HB
    clear hb
    generalize wk.heap.size = gx at *
    have yc0 : (wn.alloc (.cells #[.int .i64 y1, .int .i64 y2] 35)).cell? ⟨wn.heap.size, 0, none⟩ = some (.int .i64 y1) := by go_simp
    have yc1 : (wn.alloc (.cells #[.int .i64 y1, .int .i64 y2] 35)).cell? ⟨wn.heap.size, 1, none⟩ = some (.int .i64 y2) := by go_simp
    have yh : wn.heap.size < (wn.alloc (.cells #[.int .i64 y1, .int .i64 y2] 35)).heap.size := by simp
    have K2 : Hid (∀ p : Kin (wn.alloc (.cells #[.int .i64 y1, .int .i64 y2] 35)), Below wj.heap.size wj p.w) := fun p => (nxt HJ p.h).out
    have kn := kin_some (wn.alloc (.cells #[.int .i64 y1, .int .i64 y2] 35))
    obtain ⟨kc, kf⟩ := kin_rules (wn.alloc (.cells #[.int .i64 y1, .int .i64 y2] 35))
    have hwn : w.heap.size < (wn.alloc (.cells #[.int .i64 y1, .int .i64 y2] 35)).heap.size := by
      have := HB.out.size
      simp only [World.size_alloc] at this ⊢
      omega
    have HBw : Hid (Below (wn.alloc (.cells #[.int .i64 y1, .int .i64 y2] 35)).heap.size (wn.alloc (.cells #[.int .i64 y1, .int .i64 y2] 35)) (wn.alloc (.cells #[.int .i64 y1, .int .i64 y2] 35))) := Below.refl _ _
    by_cases h40 : nj ≤ 40
    case pos =>
      have z40 : decide ((nj : Int) ≤ 40) = true := by simp; omega
      go_wp2_with fail
      generalize (wn.alloc (.cells #[.int .i64 y1, .int .i64 y2] 35)) = wy at *
      generalize wn.heap.size = gy at *
      refine wp_region_kin HBw (by kernel_rfl) (by kernel_rfl) ?_
      repeat (go_big_quiet_step ((first | (go_at_call 19; exact kin_of (EF2.out _ (K2.out _) h40)) | (go_at_call 25; exact kin_of (EJ2.out _ (K2.out _))) | (go_at_call 28; exact kin_of (RD.out _)))))
      refine wpQuiet_nil ?_
      rintro _ ⟨pk, rfl⟩
      have HB := nxt HB pk.h
      rw [← pk.h.cell (p := ⟨gx, 0, none⟩) xh] at xc0
      rw [← pk.h.cell (p := ⟨gx, 1, none⟩) xh] at xc1
      have xh := Nat.lt_of_lt_of_le xh pk.h.size
      clear kc kf kn HBw hc hf K2 yc0 yc1 yh EJ2 EF2 RD HJ hwn
      generalize pk.w = wz at *
      clear pk
      obtain ⟨hc, hf⟩ := rules HB
      go_wp2_with fail
      refine (join_one 5 l [] _ _ wz (by omega) (rowG_below RU.out HB.out) ⟨rfl, .inl ⟨⟨_, _, rfl⟩, rfl⟩⟩ (good_mvb GL.out (by omega)) (by decide)).mono ?_
      rintro e wi ⟨ui, rfl, hoi, hb⟩
      have HB := nxt HB hb
      rw [← hb.cell (p := ⟨gx, 0, none⟩) xh] at xc0
      rw [← hb.cell (p := ⟨gx, 1, none⟩) xh] at xc1
      have xh := Nat.lt_of_lt_of_le xh hb.size
      obtain ⟨hc, hf⟩ := rules HB
      clear hb
      have RI := hidE (rowG_of_owns hoi)
      have GI := hidE (good_join1 (op := 5) GL.out l0 LB.out (by decide))
      have hil : (join1 5 l).length = l.length + 1 := by simp [join1]
      have op5 : opV 5 (x1, x2) (0, 0) = (2, b01 (x1 == 0)) := by
        have he : (x1 == 0 && x2 == 0) = (x1 == 0) := by
          have := of_decide_eq_true OX.out
          simp only at this
          by_cases h0 : x1 = 0
          · have : x2 = 0 := by omega
            simp [h0, this]
          · simp [h0]
        show tru (x1 == 0 && x2 == 0) = _
        rw [he]
        rfl
      have EI2 : Hid (∀ p : World, Below wi.heap.size wi p → Calls Try.prog 25 #[ui, .agg #[.int .i64 t, .int .i64 k1, .int .i64 k2, .int .i64 a1, .int .i64 a2, .int .i64 b1, .int .i64 b2]] p fun e w'' => e = .returned (.agg #[.int .i64 2, .int .i64 (b01 (x1 == 0))]) ∧ Below p.heap.size p w'') := fun p hb => by
        have h := reval_any (join1 5 l) _ ui t k1 k2 a1 a2 b1 b2 p (by omega) (by omega) GI.out EV.out (rowG_below RI.out hb)
        rw [EI.out, op5] at h
        exact h
      have RT := hidE (fun p => rtruth_any (x1 == 0) p)
      obtain ⟨aoi, capi, rfl⟩ := rowG_shape RI.out
      obtain ⟨ni, hni⟩ : ∃ ni, (join1 5 l).length = ni := ⟨_, rfl⟩
      rw [hni] at EI2
      rw [hni]
      have nib : ni ≤ 200 := by omega
      have zi : ((ni : Int) == (l.length : Int) + 1) = true := by simp; omega
      clear hoi RI GI hil hni EI op5
      generalize b01 (x1 == 0) = bz at *
      have K3 : Hid (∀ p : Kin wi, Below wi.heap.size wi p.w) := fun p => p.h
      have kn := kin_some wi
      obtain ⟨kc, kf⟩ := kin_rules wi
      have hwn : w.heap.size < wi.heap.size := by
        have := HB.out.size
        simp only [World.size_alloc] at this
        omega
      have HBw : Hid (Below wi.heap.size wi wi) := Below.refl _ _
      go_wp2_with fail
      refine wp_region_kin HBw (by kernel_rfl) (by kernel_rfl) ?_
      repeat (go_big_quiet_step ((first | (go_at_call 25; exact kin_of (EI2.out _ (K3.out _))) | (go_at_call 29; exact kin_of (RT.out _)))))
      refine wpQuiet_nil ?_
      rintro _ ⟨pk, rfl⟩
      have HB := nxt HB pk.h
      go_wp2_with fail
      go_ret
      exact ⟨rfl, done HE.out HB⟩
    case neg =>
      have z40 : decide ((nj : Int) ≤ 40) = false := by simp; omega
      go_wp2_with fail
      generalize (wn.alloc (.cells #[.int .i64 y1, .int .i64 y2] 35)) = wy at *
      generalize wn.heap.size = gy at *
      refine wp_region_kin HBw (by kernel_rfl) (by kernel_rfl) ?_
      repeat (go_big_quiet_step ((first | (go_at_call 25; exact kin_of (EJ2.out _ (K2.out _))) | (go_at_call 28; exact kin_of (RD.out _)))))
      refine wpQuiet_nil ?_
      rintro _ ⟨pk, rfl⟩
      have HB := nxt HB pk.h
      rw [← pk.h.cell (p := ⟨gx, 0, none⟩) xh] at xc0
      rw [← pk.h.cell (p := ⟨gx, 1, none⟩) xh] at xc1
      have xh := Nat.lt_of_lt_of_le xh pk.h.size
      clear kc kf kn HBw hc hf K2 yc0 yc1 yh EJ2 EF2 RD HJ hwn
      generalize pk.w = wz at *
      clear pk
      obtain ⟨hc, hf⟩ := rules HB
      go_wp2_with fail
      refine (join_one 5 l [] _ _ wz (by omega) (rowG_below RU.out HB.out) ⟨rfl, .inl ⟨⟨_, _, rfl⟩, rfl⟩⟩ (good_mvb GL.out (by omega)) (by decide)).mono ?_
      rintro e wi ⟨ui, rfl, hoi, hb⟩
      have HB := nxt HB hb
      rw [← hb.cell (p := ⟨gx, 0, none⟩) xh] at xc0
      rw [← hb.cell (p := ⟨gx, 1, none⟩) xh] at xc1
      have xh := Nat.lt_of_lt_of_le xh hb.size
      obtain ⟨hc, hf⟩ := rules HB
      clear hb
      have RI := hidE (rowG_of_owns hoi)
      have GI := hidE (good_join1 (op := 5) GL.out l0 LB.out (by decide))
      have hil : (join1 5 l).length = l.length + 1 := by simp [join1]
      have op5 : opV 5 (x1, x2) (0, 0) = (2, b01 (x1 == 0)) := by
        have he : (x1 == 0 && x2 == 0) = (x1 == 0) := by
          have := of_decide_eq_true OX.out
          simp only at this
          by_cases h0 : x1 = 0
          · have : x2 = 0 := by omega
            simp [h0, this]
          · simp [h0]
        show tru (x1 == 0 && x2 == 0) = _
        rw [he]
        rfl
      have EI2 : Hid (∀ p : World, Below wi.heap.size wi p → Calls Try.prog 25 #[ui, .agg #[.int .i64 t, .int .i64 k1, .int .i64 k2, .int .i64 a1, .int .i64 a2, .int .i64 b1, .int .i64 b2]] p fun e w'' => e = .returned (.agg #[.int .i64 2, .int .i64 (b01 (x1 == 0))]) ∧ Below p.heap.size p w'') := fun p hb => by
        have h := reval_any (join1 5 l) _ ui t k1 k2 a1 a2 b1 b2 p (by omega) (by omega) GI.out EV.out (rowG_below RI.out hb)
        rw [EI.out, op5] at h
        exact h
      have RT := hidE (fun p => rtruth_any (x1 == 0) p)
      obtain ⟨aoi, capi, rfl⟩ := rowG_shape RI.out
      obtain ⟨ni, hni⟩ : ∃ ni, (join1 5 l).length = ni := ⟨_, rfl⟩
      rw [hni] at EI2
      rw [hni]
      have nib : ni ≤ 200 := by omega
      have zi : ((ni : Int) == (l.length : Int) + 1) = true := by simp; omega
      clear hoi RI GI hil hni EI op5
      generalize b01 (x1 == 0) = bz at *
      have K3 : Hid (∀ p : Kin wi, Below wi.heap.size wi p.w) := fun p => p.h
      have kn := kin_some wi
      obtain ⟨kc, kf⟩ := kin_rules wi
      have hwn : w.heap.size < wi.heap.size := by
        have := HB.out.size
        simp only [World.size_alloc] at this
        omega
      have HBw : Hid (Below wi.heap.size wi wi) := Below.refl _ _
      go_wp2_with fail
      refine wp_region_kin HBw (by kernel_rfl) (by kernel_rfl) ?_
      repeat (go_big_quiet_step ((first | (go_at_call 25; exact kin_of (EI2.out _ (K3.out _))) | (go_at_call 29; exact kin_of (RT.out _)))))
      refine wpQuiet_nil ?_
      rintro _ ⟨pk, rfl⟩
      have HB := nxt HB pk.h
      go_wp2_with fail
      go_ret
      exact ⟨rfl, done HE.out HB⟩
end Go.Proofs.Ytchddjlbjldnpaa

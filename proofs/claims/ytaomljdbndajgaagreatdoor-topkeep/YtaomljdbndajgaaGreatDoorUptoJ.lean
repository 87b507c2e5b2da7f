/- Several texts in one, each with its own head. What is proved: what the parts say. Conditions: theirs. -/
import Derived.Test.YtaomljdbndajgaaGreatDoorBtFJ
import Derived.Laws.AppendOwnNone
import Derived.Test.YtaomljdbndajgaaGreatDoorPane8
import Derived.Test.YtaomljdbndajgaaGreatDoorPrsHJ
import Derived.Carry
/- The contract of upto (the panes whose windows end up to a time), over this seat's translation. Conditions: as named. -/
namespace Go.Proofs.YtaomljdbndajgaaGreatDoor
open Go.ChangeShapes Go.WideShapes Go.ChangeAt Go.RowKit
set_option linter.unusedVariables false
set_option linter.unusedSimpArgs false

/-- a slice's address and width where it is none -/
def isHand (v : Value) : Prop := v = .slice none 0 0 ∨ ∃ a n c, v = .slice (some a) n c
theorem wpList_append_row {P : Program} (w : World) {ops : Array Oper} {rest : List Oper} {o : Oper} {a : Act} {Q : Exit → Act → World → Prop} (hgd : o.guard = none) (s x : Operand) (t : TypeId)
    (ho : o.op = .call { callee := .builtin .append, args := #[s, x], argTypes := #[t, t] })
    (base : Nat) (e : TypeId) (i : TypeInfo) (z : Value) (size bytes : Nat) (ht : P.underlying t = some (.slice e)) (hi : P.info? e = some i) (hz : i.zero = some z)
    (hsize : i.size = size) (hby : i.bytes = bytes) (hzs : z.cells.size = size) (hsz : 0 < size)
    (v : Value) (n : Nat) (xs : List Value) (hs : a.eval s = v) (hown : w.ownsRow base e size v n xs)
    (xv : Value) (m : Nat) (news : List Value) (hx : a.eval x = xv) (hr : RowG w xv size m news) (hxh : isHand xv) (h1 : ∀ u ∈ news, u.oneCell' = true)
    (h63 : n + m ≤ maxLen) (hbytes : (n + m) * bytes ≤ 140737488355328) (hbase : base ≤ w.heap.size)
    (h : ∀ v' w', w'.ownsRow base e size v' (n + m) (xs ++ news) → w.grownBy w' v.ownBlock → wpList P ops Q rest (a.put o.dst v') w') : wpList P ops Q (o :: rest) a w := by
  obtain ⟨hl, hr⟩ := hr
  rcases hxh with rfl | ⟨ad, k, c, rfl⟩
  · have hm : m = 0 := by
      rcases hr with ⟨-, h⟩ | ⟨g, off, cap, e, -⟩
      · exact h
      · cases e
    subst hm
    have hn : news = [] := List.eq_nil_of_length_eq_zero (by rw [hl, Nat.zero_mul])
    subst hn
    exact wpList_append_own_none hgd s x t ho base e i size ht hi v n xs hs hown hx (h v w (by simpa using hown) ⟨rfl, rfl, rfl, Nat.le_refl _, fun _ _ _ => rfl⟩)
  · rcases hr with ⟨⟨ao, cap, e⟩, hm⟩ | ⟨g, off, cap, e, h2, h3, h4, h5⟩
    · cases e
      subst hm
      have hn : news = [] := List.eq_nil_of_length_eq_zero (by rw [hl, Nat.zero_mul])
      subst hn
      exact wpList_append_own w hgd s x t ho base _ i z size bytes ht hi hz hsize hby hzs hsz v n xs hs hown ad 0 _ [] hx hl (fun j u hu => by simp at hu) h1 h63 hbytes hbase (fun v' w' q1 q2 _ => h v' w' q1 q2)
    · cases e
      exact wpList_append_own w hgd s x t ho base _ i z size bytes ht hi hz hsize hby hzs hsz v n xs hs hown ⟨g, off, none⟩ m _ news hx hl (fun j u hu => by
        have hj := (List.getElem?_eq_some_iff.1 hu).1
        rw [show ((⟨g, off, none⟩ : Addr).add j) = ⟨g, off + j, none⟩ from by simp [Addr.add], h5 j (by omega)]
        exact hu) h1 h63 hbytes hbase (fun v' w' q1 q2 _ => h v' w' q1 q2)

theorem infoPo : (Tryz.prog.info? 74).map (fun i => (i.zero, i.size, i.bytes)) = some (some (.agg #[.int .i64 0, .int .i64 0, .int .i64 0, .slice none 0 0]), 4, 48) := by kernel_rfl

theorem cell_four_newE (w : World) (a b c d : Value) (e : TypeId) : ∀ j u, ([a, b, c, d] : List Value)[j]? = some u → (w.alloc (.cells #[a, b, c, d] e)).cell? ((⟨w.heap.size, 0, none⟩ : Addr).add j) = some u := by
  intro j u h
  have hj : j < 4 := by simpa using (List.getElem?_eq_some_iff.1 h).1
  have := World.ownsRow_lit (base := 0) (size := 4) (e := e) w #[a, b, c, d] 1 (Nat.zero_le _) (by decide) rfl
  have := this.cellAt j (by omega)
  rw [show (⟨w.heap.size, 0, none⟩ : Addr).add j = ⟨w.heap.size, j, none⟩ from by rcases (by omega : j = 0 ∨ j = 1 ∨ j = 2 ∨ j = 3) with rfl | rfl | rfl | rfl <;> rfl, this]
  exact h

set_option maxRecDepth 100000 in
set_option maxHeartbeats 2000000 in
theorem upto_any (b far : Int) (L : List Po) (u : Value) (w : World) (h : RowG w u 4 L.length (rowOf cellsPo L)) (hv : ∀ o ∈ L, RowG w o.v 2 o.vs.length (rowV o.vs)) (hl : L.length ≤ 1000) (hs : ∀ o ∈ L, -1000 ≤ o.st ∧ o.st ≤ 9999) (hb : 0 ≤ b ∧ b ≤ 2000) :
    Calls Tryz.prog 15 #[u, .int .i64 b, .int .i64 far] w fun e w' => ∃ u', e = .returned u' ∧ w'.ownsRow w.heap.size 74 4 u' (uptoO b far L).length (rowOf cellsPo (uptoO b far L)) ∧ Below w.heap.size w w' := by
  obtain ⟨i0, hi, hz0, hz1, hz2⟩ := info_parts infoPo
  obtain ⟨ap, cp, rfl⟩ := rowG_shape h
  have HL := hidE h
  have HS := hidE hs
  have HV := hidE (fun o (ho : o ∈ L) => rowG_shape (hv o ho))
  clear h hs hv
  go_enter Tryz.func15, Tryz.ntmps15
  go_wp2_with fail
  go_loopw [7, 8] (fun v i wr => ∃ m : Nat, m ≤ L.length ∧ i = .int .i64 m ∧ Hid (wr.ownsRow w.heap.size 74 4 v (uptoO b far (L.take m)).length (rowOf cellsPo (uptoO b far (L.take m)))) ∧ Hid (Below w.heap.size w wr)) (fun _ i _ => L.length - (intOf i).toNat)
  case atStart => exact ⟨0, Nat.zero_le _, rfl, World.ownsRow_nil _ _ _ _, Below.refl _ _⟩
  case round =>
    obtain ⟨m, hm, rfl, HO, HB⟩ := hrel
    obtain ⟨ao, cap, rfl⟩ := owns_shapeE HO.out
    by_cases hlt : m < L.length
    · obtain ⟨g, off, hao, hce, p1, p2, p3⟩ := rowOf_val cellsPo_len (rowG_below HL.out HB.out) m hlt
      subst hao
      have hst := HS.out L[m] (List.getElem_mem hlt)
      obtain ⟨a9, c9, hv9⟩ := HV.out L[m] (List.getElem_mem hlt)
      have HSN := hidE (uptoO_snoc b far L m hlt)
      have hul := uptoO_len b far (L.take m)
      have hltk : (L.take m).length = m := by simp; omega
      rw [hltk] at hul
      generalize uptoO b far (L.take m) = U at *
      generalize L[m] = x at *
      obtain ⟨st, k, n, vs, v⟩ := x
      simp only at hst HSN hv9
      subst hv9
      unfold maxLen at p2
      have y0 : wr.cell? ⟨g, off + m * 4, none⟩ = some (.int .i64 st) := hce 0 (by omega)
      have y1 : wr.cell? ⟨g, off + m * 4 + 1, none⟩ = some (.int .i64 k) := hce 1 (by omega)
      have y2 : wr.cell? ⟨g, off + m * 4 + 2, none⟩ = some (.int .i64 n) := hce 2 (by omega)
      have y3 : wr.cell? ⟨g, off + m * 4 + 3, none⟩ = some (.slice a9 vs.length c9) := hce 3 (by omega)
      have hwr := wrapIn2 (st + b) (by omega) (by omega)
      clear hce
      by_cases hc : st + b ≤ far
      · have d1 : decide (st + b ≤ far) = true := decide_eq_true hc
        rw [if_pos hc] at HSN
        go_wp2_with (at_builtin; go_must (refine wpList_append_own _ rfl (.tmp 24) (.tmp 29) 41 rfl w.heap.size 74 i0 (.agg #[.int .i64 0, .int .i64 0, .int .i64 0, .slice none 0 0]) 4 48 Tryz.underlying41 hi hz0 hz1 hz2 rfl (by decide) _ _ _ rfl (HO.out.alloc _) ⟨wr.heap.size, 0, none⟩ 1 1 [.int .i64 st, .int .i64 k, .int .i64 n, .slice a9 vs.length c9] rfl rfl (cell_four_newE _ _ _ _ _ _) (by intro u hu; simp at hu; rcases hu with rfl | rfl | rfl | rfl <;> rfl) (by show _ ≤ 2 ^ 63 - 1; omega) (by omega) (by have := HB.out.size; simp; omega) ?_))
        intro v' w3 ho3 hg3 _
        have ho4 : w3.ownsRow w.heap.size 74 4 v' (uptoO b far (L.take (m + 1))).length (rowOf cellsPo (uptoO b far (L.take (m + 1)))) := by
          rw [HSN.out, rowOf_app, rowOf_one, List.length_append]
          exact ho3
        have HO3 := hidE ho4
        have HB3 : Hid (Below w.heap.size w w3) := (HB.out.alloc HB.out.size _).grown hg3 (by have := HB.out.size; simp; omega) (fun k hk => (HO.out.lt k hk).1)
        clear ho3 hg3 ho4
        go_wp2_with fail
        go_roundw
        case rel => exact ⟨m + 1, by omega, by go_num, HO3, HB3⟩
        case measure => simp [intOf]; omega
      · have d1 : decide (st + b ≤ far) = false := decide_eq_false hc
        rw [if_neg hc, List.append_nil] at HSN
        go_wp2_with fail
        go_roundw
        case rel => exact ⟨m + 1, by omega, by go_num, by show World.ownsRow _ _ _ _ _ _ _; rw [HSN.out]; exact HO.out, HB⟩
        case measure => simp [intOf]; omega
    · have hme : m = L.length := by omega
      subst hme
      go_wp2_with fail
      go_ret
      refine ⟨_, rfl, ?_, HB.out⟩
      have := HO.out
      simp only [List.take_length] at this ⊢
      exact this
end Go.Proofs.YtaomljdbndajgaaGreatDoor
/- The contract of light (are events few, and may each be), over this seat's translation. Conditions: as named. -/
namespace Go.Proofs.YtaomljdbndajgaaGreatDoor
open Go.ChangeShapes Go.WideShapes Go.ChangeAt Go.RowKit
set_option linter.unusedVariables false
set_option linter.unusedSimpArgs false

def lightE (l : List Ev) : Bool := decide (l.length ≤ 40) && l.all fun x => decide (evC x = 0)
def lightM (M : List (List Ev)) : Bool := decide (M.length ≤ 3) && M.all lightE
theorem lightM_ok {M : List (List Ev)} (h : lightM M = true) : M.length ≤ 3 ∧ ∀ l ∈ M, l.length ≤ 40 ∧ ∀ x ∈ l, evC x = 0 := by
  unfold lightM at h
  simp only [Bool.and_eq_true, decide_eq_true_eq, List.all_eq_true] at h
  refine ⟨h.1, fun l hl => ?_⟩
  have h1 := h.2 l hl
  unfold lightE at h1
  simpa using h1

set_option maxRecDepth 100000 in
set_option maxHeartbeats 2000000 in
theorem light_any (pv : Value) (vs : List Value) (M : List (List Ev)) (w : World) (h : PtsR w pv vs M) (hml : M.length ≤ maxLen) :
    Calls Tryz.prog 9 #[pv] w fun e w' => e = .returned (.bool (lightM M)) ∧ Below w.heap.size w w' := by
  obtain ⟨ap, cp, rfl⟩ := rowG_shape h.row
  unfold maxLen at hml
  by_cases h3 : M.length ≤ 3
  · have HT : Hid ((∀ l ∈ M, lightE l = true) → lightM M = true) := fun hl => by
      unfold lightM
      rw [decide_eq_true h3, Bool.true_and, List.all_eq_true]
      exact hl
    have HF : Hid (∀ l ∈ M, lightE l = false → lightM M = false) := fun l hl e => by
      cases hb : lightM M with
      | false => rfl
      | true =>
        unfold lightM at hb
        rw [decide_eq_true h3, Bool.true_and, List.all_eq_true] at hb
        rw [hb l hl] at e
        cases e
    have HM := hidE h
    have d3 : decide ((3 : Int) < (M.length : Int)) = false := by simp; omega
    generalize lightM M = b at *
    clear h
    go_enter Tryz.func9, Tryz.ntmps9
    go_wp2_with fail
    go_loopw [3] (fun i wr => ∃ m : Nat, m ≤ M.length ∧ i = .int .i64 m ∧ Hid (∀ l ∈ M.take m, lightE l = true) ∧ Hid (Below w.heap.size w wr)) (fun i _ => M.length - (intOf i).toNat)
    case atStart => exact ⟨0, Nat.zero_le _, rfl, fun l hl => by simp at hl, Below.refl _ _⟩
    case round =>
      obtain ⟨m, hm, rfl, HP, HB⟩ := hrel
      by_cases hlt : m < M.length
      · obtain ⟨g, off, v, hao, hv, y0, z1, z2, z3⟩ := rowG_cell HM.out.row m hlt
        subst hao
        have hrl := HM.out.each m v M[m] hv (List.getElem?_eq_getElem hlt)
        have hmem := List.getElem_mem hlt
        have hnx : M.take (m + 1) = M.take m ++ [M[m]] := List.take_succ_eq_append_getElem hlt
        have HNX : Hid (lightE M[m] = true → ∀ l ∈ M.take (m + 1), lightE l = true) := fun he l hl => by
          rw [hnx] at hl
          rcases List.mem_append.1 hl with hl | hl
          · exact HP.out l hl
          · rw [List.mem_singleton.1 hl]
            exact he
        have HFM := hidE (HF.out M[m] hmem)
        clear hnx hv hmem
        generalize M[m] = l at *
        obtain ⟨al, cl, rfl⟩ := rowG_shape hrl
        have HRL := hidE hrl
        unfold maxLen at z2
        have Y0 := hidE y0
        have y0 : wr.cell? ⟨g, off + m, none⟩ = some (.slice al l.length cl) := (HB.out.cell (p := ⟨g, off + m, none⟩) z3).trans Y0.out
        have z4 : g < wr.heap.size := Nat.lt_of_lt_of_le z3 HB.out.size
        clear hrl
        by_cases hl : l.length ≤ 40
        · have d4 : decide ((40 : Int) < (l.length : Int)) = false := by simp; omega
          have HLT : Hid ((∀ x ∈ l, evC x = 0) → lightE l = true) := fun hx => by
            unfold lightE
            simp [hl]
            exact hx
          have HLF : Hid (∀ x ∈ l, evC x ≠ 0 → lightE l = false) := fun x hx hc => by
            unfold lightE
            rw [Bool.and_eq_false_iff]
            refine .inr ?_
            cases hb : l.all fun x => decide (evC x = 0) with
            | false => rfl
            | true =>
              rw [List.all_eq_true] at hb
              have := hb x hx
              simp [hc] at this
          go_wp2_with fail
          go_loopw [4] (fun i wx => ∃ k : Nat, k ≤ l.length ∧ i = .int .i64 k ∧ Hid (∀ x ∈ l.take k, evC x = 0) ∧ Hid (Below w.heap.size w wx)) (fun i _ => l.length - (intOf i).toNat)
          case atStart => exact ⟨0, Nat.zero_le _, rfl, fun x hx => by simp at hx, HB⟩
          case round =>
            clear HB y0
            obtain ⟨k, hk, rfl, HX, HB⟩ := hrel
            have y0 : wr.cell? ⟨g, off + m, none⟩ = some (.slice al l.length cl) := (HB.out.cell (p := ⟨g, off + m, none⟩) z3).trans Y0.out
            have z5 : g < wr.heap.size := Nat.lt_of_lt_of_le z3 HB.out.size
            clear z4
            by_cases hkl : k < l.length
            · obtain ⟨ge, oe, hae, hce, p1, p2, p3⟩ := rowOf_val cellsE_len (rowG_below HRL.out HB.out) k hkl
              subst hae
              have hxm := List.getElem_mem hkl
              have hnx : l.take (k + 1) = l.take k ++ [l[k]] := List.take_succ_eq_append_getElem hkl
              have HLK := hidE (HLF.out l[k] hxm)
              have HXN : Hid (evC l[k] = 0 → ∀ x ∈ l.take (k + 1), evC x = 0) := fun he x hx => by
                rw [hnx] at hx
                rcases List.mem_append.1 hx with hx | hx
                · exact HX.out x hx
                · rw [List.mem_singleton.1 hx]
                  exact he
              clear hnx hxm
              generalize l[k] = x at *
              obtain ⟨x0, x1, x2, x3, x4, x5, x6⟩ := ev7 hce
              unfold maxLen at p2
              have SC := srcCheck_any x wr
              unfold aggEv at SC
              clear hce
              by_cases hc : evC x = 0
              · have e9 : errV 0 = .nilIface := rfl
                rw [hc, e9] at SC
                have SCH := hidE SC
                have HX1 := hidE (HXN.out hc)
                clear SC e9 hc
                go_wp2_with fail
                refine SCH.out.mono ?_
                rintro e w1 ⟨rfl, hb⟩
                have HB1 := nxt HB hb
                clear hb
                go_wp2_with fail
                go_roundw
                case rel => exact ⟨k + 1, by omega, by go_num, HX1, HB1⟩
                case measure => simp [intOf]; omega
              · have e9 : errV (evC x) = .iface 56 (.int .i64 (evC x)) := by unfold errV; rw [if_neg hc]
                rw [e9] at SC
                have SCH := hidE SC
                have hbf : b = false := HFM.out (HLK.out hc)
                subst hbf
                generalize evC x = c at *
                clear SC e9 hc
                go_wp2_with fail
                refine SCH.out.mono ?_
                rintro e w1 ⟨rfl, hb⟩
                have HB1 := nxt HB hb
                clear hb
                go_wp2_with fail
                go_ret
                exact ⟨rfl, HB1.out⟩
            · have hke : k = l.length := by omega
              subst hke
              have HP2 := hidE (HNX.out (HLT.out (fun x hx => HX.out x (by rw [List.take_length]; exact hx))))
              go_wp2_with fail
              go_roundw
              case rel => exact ⟨m + 1, by omega, by go_num, HP2, HB⟩
              case measure => simp [intOf]; omega
        · have d4 : decide ((40 : Int) < (l.length : Int)) = true := by simp; omega
          have hbf : b = false := HFM.out (by unfold lightE; rw [decide_eq_false hl]; rfl)
          subst hbf
          go_wp2_with fail
          go_ret
          exact ⟨rfl, HB.out⟩
      · have hme : m = M.length := by omega
        subst hme
        have hbt : b = true := HT.out (fun l hl => HP.out l (by rw [List.take_length]; exact hl))
        subst hbt
        go_wp2_with fail
        go_ret
        exact ⟨rfl, HB.out⟩
  · have d3 : decide ((3 : Int) < (M.length : Int)) = true := by simp; omega
    have hbf : lightM M = false := by unfold lightM; rw [decide_eq_false h3]; rfl
    rw [hbf]
    clear h hbf
    go_enter Tryz.func9, Tryz.ntmps9
    go_wp2_with fail
    go_ret
    exact ⟨rfl, Below.refl _ _⟩
end Go.Proofs.YtaomljdbndajgaaGreatDoor
/- The contracts of the document's SameValues and SamePane at two that are alike, over this seat's translation. Conditions: as named. -/
namespace Go.Proofs.YtaomljdbndajgaaGreatDoor
open Go.ChangeShapes Go.WideShapes Go.ChangeAt Go.RowKit
set_option linter.unusedVariables false
set_option linter.unusedSimpArgs false

theorem neq_val (a b : Int) (w : World) : (binOp .neq 26 (.agg #[.int .i64 a, .int .i64 b]) (.agg #[.int .i64 a, .int .i64 b])).run Tryz.prog w = .ok (.bool false) w := by
  have h1 : (a == a) = true := by simp
  have h2 : (b == b) = true := by simp
  go_simp
theorem eql_val (a b : Int) (w : World) : (binOp .eql 26 (.agg #[.int .i64 a, .int .i64 b]) (.agg #[.int .i64 a, .int .i64 b])).run Tryz.prog w = .ok (.bool true) w := by
  have h1 : (a == a) = true := by simp
  have h2 : (b == b) = true := by simp
  go_simp

set_option maxRecDepth 100000 in
set_option maxHeartbeats 1000000 in
theorem sameVals_any (l : List V2) (u v : Value) (w : World) (hl : l.length ≤ 1000) (hu : RowG w u 2 l.length (rowV l)) (hv : RowG w v 2 l.length (rowV l)) :
    Calls Tryz.prog 49 #[u, v] w fun e w' => e = .returned (.bool true) ∧ Below w.heap.size w w' := by
  obtain ⟨au, cu, rfl⟩ := rowG_shape hu
  obtain ⟨av, cv, rfl⟩ := rowG_shape hv
  have HU := hidE hu
  have HV := hidE hv
  have kn := kin_some w
  obtain ⟨kc, kf⟩ := kin_rules w
  have nq := neq_val
  have bne : ((l.length : Int) != (l.length : Int)) = false := by simp
  clear hu hv
  go_enter Tryz.func49, Tryz.ntmps49
  go_wp2_with fail
  go_loopw [5] (fun i wr => ∃ m : Nat, m ≤ l.length ∧ i = .int .i64 m ∧ Hid (Below w.heap.size w wr)) (fun i _ => l.length - (intOf i).toNat)
  case atStart => exact ⟨0, Nat.zero_le _, rfl, Below.refl _ _⟩
  case round =>
    obtain ⟨m, hm, rfl, HW⟩ := hrel
    by_cases hlt : m < l.length
    · obtain ⟨g1, o1, rfl, e0, e1, p1, p2, p3⟩ := rowV_val HU.out m hlt
      obtain ⟨g2, o2, rfl, f0, f1, q1, q2, q3⟩ := rowV_val HV.out m hlt
      generalize l[m] = x at *
      obtain ⟨x1, x2⟩ := x
      simp only at e0 e1 f0 f1
      unfold maxLen at p2 q2
      go_wp2_with fail
      refine wp_region_kin HW (by kernel_rfl) (by kernel_rfl) ?_
      repeat (go_big_quiet_step (fail))
      refine wpQuiet_nil ?_
      rintro _ ⟨pk, rfl⟩
      have HP := hidE pk.h
      generalize pk.w = wp at *
      clear HW
      go_wp2_with fail
      go_roundw
      case rel => exact ⟨m + 1, by omega, by go_num, HP⟩
      case measure => simp [intOf]; omega
    · have hml : m = l.length := by omega
      subst hml
      go_wp2_with fail
      go_ret
      exact ⟨rfl, HW.out⟩

set_option maxRecDepth 100000 in
set_option maxHeartbeats 1000000 in
theorem samePane_any (st k n : Int) (l : List V2) (u v : Value) (w : World) (hl : l.length ≤ 1000) (hu : RowG w u 2 l.length (rowV l)) (hv : RowG w v 2 l.length (rowV l)) :
    Calls Tryz.prog 29 #[.agg #[.int .i64 st, .int .i64 k, .int .i64 n, u], .agg #[.int .i64 st, .int .i64 k, .int .i64 n, v]] w fun e w' => e = .returned (.bool true) ∧ Below w.heap.size w w' := by
  obtain ⟨au, cu, rfl⟩ := rowG_shape hu
  obtain ⟨av, cv, rfl⟩ := rowG_shape hv
  have b1 := (Below.refl w.heap.size w).alloc (Nat.le_refl _) (.cells #[.int .i64 st, .int .i64 k, .int .i64 n, .slice au l.length cu] 74)
  have b2 := b1.alloc b1.size (.cells #[.int .i64 st, .int .i64 k, .int .i64 n, .slice av l.length cv] 74)
  have SV := hidE (sameVals_any l _ _ _ hl (rowG_below hu b2) (rowG_below hv b2))
  have A0 := blk_below (blk_alloc1k w [.int .i64 st, .int .i64 k, .int .i64 n, .slice au l.length cu] 74 (by simp)) ((Below.refl _ _).alloc (Nat.le_refl _) (.cells #[.int .i64 st, .int .i64 k, .int .i64 n, .slice av l.length cv] 74)) (by simp)
  have A1 := blk_alloc1k (w.alloc (.cells #[.int .i64 st, .int .i64 k, .int .i64 n, .slice au l.length cu] 74)) [.int .i64 st, .int .i64 k, .int .i64 n, .slice av l.length cv] 74 (by simp)
  rw [show (w.alloc (.cells #[.int .i64 st, .int .i64 k, .int .i64 n, .slice au l.length cu] 74)).heap.size = w.heap.size + 1 from by simp] at A1
  have B0 := hidE A0
  have B1 := hidE A1
  have HA := hidE b2
  have eq1 := eql_val
  have bs : (st == st) = true := by simp
  clear b1 b2 A0 A1 hu hv
  go_enter Tryz.func29, Tryz.ntmps29
  go_wp2_with fail
  refine SV.out.mono ?_
  rintro e w1 ⟨rfl, hb⟩
  have C0 := blk_below B0.out hb B0.out.lt
  have C1 := blk_below B1.out hb B1.out.lt
  have d0 : w1.cell? ⟨w.heap.size, 0, none⟩ = some (.int .i64 st) := C0.c 0 (by simp)
  have d1 : w1.cell? ⟨w.heap.size, 1, none⟩ = some (.int .i64 k) := C0.c 1 (by simp)
  have d2 : w1.cell? ⟨w.heap.size, 2, none⟩ = some (.int .i64 n) := C0.c 2 (by simp)
  have f0 : w1.cell? ⟨w.heap.size + 1, 0, none⟩ = some (.int .i64 st) := C1.c 0 (by simp)
  have f1 : w1.cell? ⟨w.heap.size + 1, 1, none⟩ = some (.int .i64 k) := C1.c 1 (by simp)
  have f2 : w1.cell? ⟨w.heap.size + 1, 2, none⟩ = some (.int .i64 n) := C1.c 2 (by simp)
  have HB := nxt HA hb
  clear hb C0 C1 B0 B1 SV HA
  go_wp2_with fail
  go_ret
  exact ⟨rfl, HB.out⟩
end Go.Proofs.YtaomljdbndajgaaGreatDoor
/- The contract of the document's SamePanes at two that are alike, over this seat's translation. Conditions: as named. -/
namespace Go.Proofs.YtaomljdbndajgaaGreatDoor
open Go.ChangeShapes Go.WideShapes Go.ChangeAt Go.RowKit
set_option linter.unusedVariables false
set_option linter.unusedSimpArgs false

set_option maxRecDepth 100000 in
set_option maxHeartbeats 2000000 in
theorem samePanes_eq (L1 L2 : List Po) (u1 u2 : Value) (w : World) (h1 : RowG w u1 4 L1.length (rowOf cellsPo L1)) (v1 : ∀ o ∈ L1, RowG w o.v 2 o.vs.length (rowV o.vs)) (h2 : RowG w u2 4 L2.length (rowOf cellsPo L2)) (v2 : ∀ o ∈ L2, RowG w o.v 2 o.vs.length (rowV o.vs))
    (hl : L1.length ≤ 1000) (hvl : ∀ o ∈ L1, o.vs.length ≤ 1000) (he : L1.map outO = L2.map outO) :
    Calls Tryz.prog 12 #[u1, u2] w fun e w' => e = .returned (.bool true) ∧ Below w.heap.size w w' := by
  have hlen : L2.length = L1.length := by
    have := congrArg List.length he
    simp at this
    exact this.symm
  obtain ⟨a1, d1, rfl⟩ := rowG_shape h1
  obtain ⟨a2, d2, rfl⟩ := rowG_shape h2
  have H1 := hidE h1
  have H2 := hidE h2
  have V1 := hidE v1
  have V2 := hidE v2
  have HE : Hid (∀ m (a : m < L1.length) (b : m < L2.length), outO L1[m] = outO L2[m]) := fun m a b => by
    have e : (L1.map outO)[m]? = (L2.map outO)[m]? := by rw [he]
    rw [List.getElem?_map, List.getElem?_map, List.getElem?_eq_getElem a, List.getElem?_eq_getElem b] at e
    simpa using e
  have HVL := hidE hvl
  have HLEN := hidE hlen
  have bne : ((L1.length : Int) != (L1.length : Int)) = false := by simp
  rw [hlen]
  clear h1 h2 v1 v2 he hvl hlen
  go_enter Tryz.func12, Tryz.ntmps12
  go_wp2_with fail
  go_loopw [5] (fun i wr => ∃ m : Nat, m ≤ L1.length ∧ i = .int .i64 m ∧ Hid (Below w.heap.size w wr)) (fun i _ => L1.length - (intOf i).toNat)
  case atStart => exact ⟨0, Nat.zero_le _, rfl, Below.refl _ _⟩
  case round =>
    obtain ⟨m, hm, rfl, HW⟩ := hrel
    by_cases hlt : m < L1.length
    · have hlt2 : m < L2.length := by rw [HLEN.out]; exact hlt
      obtain ⟨g1, o1, ha1, hc1, p1, p2, lg1⟩ := rowOf_val cellsPo_len H1.out m hlt
      obtain ⟨g2, o2, ha2, hc2, q1, q2, lg2⟩ := rowOf_val cellsPo_len H2.out m hlt2
      subst ha1 ha2
      have r1 := V1.out L1[m] (List.getElem_mem hlt)
      have r2 := V2.out L2[m] (List.getElem_mem hlt2)
      have ee := HE.out m hlt hlt2
      have hv9 := HVL.out L1[m] (List.getElem_mem hlt)
      generalize L1[m] = x1 at *
      generalize L2[m] = x2 at *
      obtain ⟨st, k, n, vs, z1⟩ := x1
      obtain ⟨st2, k2, n2, vs2, z2⟩ := x2
      have ee : (st, k, n, vs) = (st2, k2, n2, vs2) := ee
      simp only [Prod.mk.injEq] at ee
      obtain ⟨rfl, rfl, rfl, rfl⟩ := ee
      obtain ⟨b1, e1, hz1⟩ := rowG_shape r1
      obtain ⟨b2, e2, hz2⟩ := rowG_shape r2
      simp only at hz1 hz2 hv9
      subst hz1 hz2
      have x0 : w.cell? ⟨g1, o1 + m * 4, none⟩ = some (.int .i64 st) := hc1 0 (by omega)
      have x1 : w.cell? ⟨g1, o1 + m * 4 + 1, none⟩ = some (.int .i64 k) := hc1 1 (by omega)
      have x2 : w.cell? ⟨g1, o1 + m * 4 + 2, none⟩ = some (.int .i64 n) := hc1 2 (by omega)
      have x3 : w.cell? ⟨g1, o1 + m * 4 + 3, none⟩ = some (.slice b1 vs.length e1) := hc1 3 (by omega)
      have y0 : w.cell? ⟨g2, o2 + m * 4, none⟩ = some (.int .i64 st) := hc2 0 (by omega)
      have y1 : w.cell? ⟨g2, o2 + m * 4 + 1, none⟩ = some (.int .i64 k) := hc2 1 (by omega)
      have y2 : w.cell? ⟨g2, o2 + m * 4 + 2, none⟩ = some (.int .i64 n) := hc2 2 (by omega)
      have y3 : w.cell? ⟨g2, o2 + m * 4 + 3, none⟩ = some (.slice b2 vs.length e2) := hc2 3 (by omega)
      have SP : Hid (∀ w', Below w.heap.size w w' → Calls Tryz.prog 29 #[.agg #[.int .i64 st, .int .i64 k, .int .i64 n, .slice b1 vs.length e1], .agg #[.int .i64 st, .int .i64 k, .int .i64 n, .slice b2 vs.length e2]] w' fun e w'' => e = .returned (.bool true) ∧ Below w'.heap.size w' w'') := fun w' hb => samePane_any st k n vs _ _ w' hv9 (rowG_below r1 hb) (rowG_below r2 hb)
      unfold maxLen at p2 q2
      rw [HLEN.out] at q1
      clear hc1 hc2 r1 r2
      go_wp2_with fail
      refine wp_region_held (S := fun w' => Below w.heap.size w w') (by kernel_rfl) ?_
      have hS : Below w.heap.size w ({ wr with drawn := wr.drawn + 1 } : World) := HW.out.drew
      generalize ({ wr with drawn := wr.drawn + 1 } : World) = wd at *
      clear HW
      refine held_take (i := 0) (v := .slice (some ⟨g1, o1, none⟩) L1.length d1) (L := #[true, false, false, false, false, false, false, false, false, false]) rfl (by kernel_rfl) (by kernel_rfl) (by kernel_rfl) (fun c a w h => h) (Or.inl ⟨by kernel_rfl, fun wq hq => by go_simp⟩) hS (by kernel_rfl) ?_
      refine held_take (i := 1) (v := .int .i64 (m : Int)) (L := #[true, true, false, false, false, false, false, false, false, false]) rfl (by kernel_rfl) (by kernel_rfl) (by kernel_rfl) (fun c a w h => h) (Or.inl ⟨by kernel_rfl, fun wq hq => by go_simp⟩) hS (by kernel_rfl) ?_
      refine held_take (i := 2) (v := .pointer (some ⟨g1, o1 + m * 4, none⟩)) (L := #[true, true, true, false, false, false, false, false, false, false]) rfl (by kernel_rfl) (by kernel_rfl) (by kernel_rfl) (fun c a w h => h) (Or.inl ⟨by kernel_rfl, fun wq hq => by go_simp⟩) hS (by kernel_rfl) ?_
      refine held_take (i := 3) (v := .agg #[.int .i64 st, .int .i64 k, .int .i64 n, .slice b1 vs.length e1]) (L := #[true, true, true, true, false, false, false, false, false, false]) rfl (by kernel_rfl) (by kernel_rfl) (by kernel_rfl) (fun c a w h => h) (Or.inl ⟨by kernel_rfl, fun wq hq => by have q0 := hq.cell (p := ⟨g1, o1 + m * 4, none⟩) lg1; rw [x0] at q0; have q1 := hq.cell (p := ⟨g1, o1 + m * 4 + 1, none⟩) lg1; rw [x1] at q1; have q2 := hq.cell (p := ⟨g1, o1 + m * 4 + 2, none⟩) lg1; rw [x2] at q2; have q3 := hq.cell (p := ⟨g1, o1 + m * 4 + 3, none⟩) lg1; rw [x3] at q3; go_simp⟩) hS (by kernel_rfl) ?_
      refine held_take (i := 4) (v := .slice (some ⟨g2, o2, none⟩) L1.length d2) (L := #[true, true, true, true, true, false, false, false, false, false]) rfl (by kernel_rfl) (by kernel_rfl) (by kernel_rfl) (fun c a w h => h) (Or.inl ⟨by kernel_rfl, fun wq hq => by go_simp⟩) hS (by kernel_rfl) ?_
      refine held_take (i := 5) (v := .int .i64 (m : Int)) (L := #[true, true, true, true, true, true, false, false, false, false]) rfl (by kernel_rfl) (by kernel_rfl) (by kernel_rfl) (fun c a w h => h) (Or.inl ⟨by kernel_rfl, fun wq hq => by go_simp⟩) hS (by kernel_rfl) ?_
      refine held_take (i := 6) (v := .pointer (some ⟨g2, o2 + m * 4, none⟩)) (L := #[true, true, true, true, true, true, true, false, false, false]) rfl (by kernel_rfl) (by kernel_rfl) (by kernel_rfl) (fun c a w h => h) (Or.inl ⟨by kernel_rfl, fun wq hq => by go_simp⟩) hS (by kernel_rfl) ?_
      refine held_take (i := 7) (v := .agg #[.int .i64 st, .int .i64 k, .int .i64 n, .slice b2 vs.length e2]) (L := #[true, true, true, true, true, true, true, true, false, false]) rfl (by kernel_rfl) (by kernel_rfl) (by kernel_rfl) (fun c a w h => h) (Or.inl ⟨by kernel_rfl, fun wq hq => by have q0 := hq.cell (p := ⟨g2, o2 + m * 4, none⟩) lg2; rw [y0] at q0; have q1 := hq.cell (p := ⟨g2, o2 + m * 4 + 1, none⟩) lg2; rw [y1] at q1; have q2 := hq.cell (p := ⟨g2, o2 + m * 4 + 2, none⟩) lg2; rw [y2] at q2; have q3 := hq.cell (p := ⟨g2, o2 + m * 4 + 3, none⟩) lg2; rw [y3] at q3; go_simp⟩) hS (by kernel_rfl) ?_
      refine held_go (i := 8) (L := #[true, true, true, true, true, true, true, true, true, false]) (by kernel_rfl) rfl (by kernel_rfl) (by kernel_rfl) ?_
      intro K' hK
      go_simp
      refine (SP.out _ hS).mono ?_
      rintro e w1 ⟨rfl, hb⟩
      have hS1 := hS.trans (hb.mono hS.size)
      refine hK _ _ ⟨hS1, ?_⟩
      clear hK hb
      refine held_go (i := 9) (L := #[true, true, true, true, true, true, true, true, true, true]) (by kernel_rfl) rfl (by kernel_rfl) (by kernel_rfl) ?_
      intro K' hK
      go_simp
      refine hK _ _ ⟨hS1, ?_⟩
      clear hK
      refine wpAnyH_done (by kernel_rfl) ?_ _
      have HP := hidE hS1
      clear hS hS1 SP
      go_wp2_with fail
      go_roundw
      case rel => exact ⟨m + 1, by omega, by go_num, HP⟩
      case measure => simp [intOf]; omega
    · have hml : m = L1.length := by omega
      subst hml
      go_wp2_with fail
      go_ret
      exact ⟨rfl, HW.out⟩
end Go.Proofs.YtaomljdbndajgaaGreatDoor
/- The contract of query's signs, over this seat's translation. Conditions: none. -/
namespace Go.Proofs.YtaomljdbndajgaaGreatDoor
open Go.ChangeShapes Go.WideShapes Go.ChangeAt Go.RowKit
set_option linter.unusedVariables false
set_option linter.unusedSimpArgs false

set_option maxRecDepth 100000 in
set_option maxHeartbeats 2000000 in
theorem signs_any (w : World) : Calls Tryz.prog 31 #[] w fun r w' => r = .returned (.map (some w.heap.size)) ∧ Below w.heap.size w w' ∧ MapL w' w.heap.size sgL := by
  have M0 := mapL_new w
  have B0 := below_alloc w (.map #[] 0)
  have mk : (Instr.makeMap 78 none).run Tryz.prog w = .ok (.map (some w.heap.size)) (w.alloc (.map #[] 0)) := rfl
  generalize w.heap.size = g at *
  generalize w.alloc (.map #[] 0) = w0 at *
  obtain ⟨w1, r0, M1, K0⟩ := insS M0 wOr ⟨0, 10, false, false⟩ (by decide)
  have B1 : Below g w w1 := B0.trans (keptB_below K0 (Nat.le_of_lt (mapL_lt M0)) (fun k e => by omega))
  have i0 : (Instr.mapUpdate 78 (.map (some g)) (.string ⟨#[111, 114]⟩) (.agg #[.int .i64 0, .int .i64 10, .bool false, .bool false])).run Tryz.prog w0 = .ok () w1 := r0
  obtain ⟨w2, r1, M2, K1⟩ := insS M1 wAnd ⟨1, 9, false, false⟩ (by decide)
  have B2 : Below g w w2 := B1.trans (keptB_below K1 (Nat.le_of_lt (mapL_lt M1)) (fun k e => by omega))
  have i1 : (Instr.mapUpdate 78 (.map (some g)) (.string ⟨#[97, 110, 100]⟩) (.agg #[.int .i64 1, .int .i64 9, .bool false, .bool false])).run Tryz.prog w1 = .ok () w2 := r1
  obtain ⟨w3, r2, M3, K2⟩ := insS M2 wLt ⟨2, 11, false, false⟩ (by decide)
  have B3 : Below g w w3 := B2.trans (keptB_below K2 (Nat.le_of_lt (mapL_lt M2)) (fun k e => by omega))
  have i2 : (Instr.mapUpdate 78 (.map (some g)) (.string ⟨#[60]⟩) (.agg #[.int .i64 2, .int .i64 11, .bool false, .bool false])).run Tryz.prog w2 = .ok () w3 := r2
  obtain ⟨w4, r3, M4, K3⟩ := insS M3 wGt ⟨2, 11, true, false⟩ (by decide)
  have B4 : Below g w w4 := B3.trans (keptB_below K3 (Nat.le_of_lt (mapL_lt M3)) (fun k e => by omega))
  have i3 : (Instr.mapUpdate 78 (.map (some g)) (.string ⟨#[62]⟩) (.agg #[.int .i64 2, .int .i64 11, .bool true, .bool false])).run Tryz.prog w3 = .ok () w4 := r3
  obtain ⟨w5, r4, M5, K4⟩ := insS M4 wLe ⟨2, 11, true, true⟩ (by decide)
  have B5 : Below g w w5 := B4.trans (keptB_below K4 (Nat.le_of_lt (mapL_lt M4)) (fun k e => by omega))
  have i4 : (Instr.mapUpdate 78 (.map (some g)) (.string ⟨#[60, 61]⟩) (.agg #[.int .i64 2, .int .i64 11, .bool true, .bool true])).run Tryz.prog w4 = .ok () w5 := r4
  obtain ⟨w6, r5, M6, K5⟩ := insS M5 wGe ⟨2, 11, false, true⟩ (by decide)
  have B6 : Below g w w6 := B5.trans (keptB_below K5 (Nat.le_of_lt (mapL_lt M5)) (fun k e => by omega))
  have i5 : (Instr.mapUpdate 78 (.map (some g)) (.string ⟨#[62, 61]⟩) (.agg #[.int .i64 2, .int .i64 11, .bool false, .bool true])).run Tryz.prog w5 = .ok () w6 := r5
  obtain ⟨w7, r6, M7, K6⟩ := insS M6 wEq ⟨2, 12, false, false⟩ (by decide)
  have B7 : Below g w w7 := B6.trans (keptB_below K6 (Nat.le_of_lt (mapL_lt M6)) (fun k e => by omega))
  have i6 : (Instr.mapUpdate 78 (.map (some g)) (.string ⟨#[61]⟩) (.agg #[.int .i64 2, .int .i64 12, .bool false, .bool false])).run Tryz.prog w6 = .ok () w7 := r6
  obtain ⟨w8, r7, M8, K7⟩ := insS M7 wNe ⟨2, 12, false, true⟩ (by decide)
  have B8 : Below g w w8 := B7.trans (keptB_below K7 (Nat.le_of_lt (mapL_lt M7)) (fun k e => by omega))
  have i7 : (Instr.mapUpdate 78 (.map (some g)) (.string ⟨#[60, 62]⟩) (.agg #[.int .i64 2, .int .i64 12, .bool false, .bool true])).run Tryz.prog w7 = .ok () w8 := r7
  obtain ⟨w9, r8, M9, K8⟩ := insS M8 wPlus ⟨3, 6, false, false⟩ (by decide)
  have B9 : Below g w w9 := B8.trans (keptB_below K8 (Nat.le_of_lt (mapL_lt M8)) (fun k e => by omega))
  have i8 : (Instr.mapUpdate 78 (.map (some g)) (.string ⟨#[43]⟩) (.agg #[.int .i64 3, .int .i64 6, .bool false, .bool false])).run Tryz.prog w8 = .ok () w9 := r8
  obtain ⟨w10, r9, M10, K9⟩ := insS M9 wMinus ⟨3, 7, false, false⟩ (by decide)
  have B10 : Below g w w10 := B9.trans (keptB_below K9 (Nat.le_of_lt (mapL_lt M9)) (fun k e => by omega))
  have i9 : (Instr.mapUpdate 78 (.map (some g)) (.string ⟨#[45]⟩) (.agg #[.int .i64 3, .int .i64 7, .bool false, .bool false])).run Tryz.prog w9 = .ok () w10 := r9
  obtain ⟨w11, r10, M11, K10⟩ := insS M10 wStar ⟨4, 8, false, false⟩ (by decide)
  have B11 : Below g w w11 := B10.trans (keptB_below K10 (Nat.le_of_lt (mapL_lt M10)) (fun k e => by omega))
  have i10 : (Instr.mapUpdate 78 (.map (some g)) (.string ⟨#[42]⟩) (.agg #[.int .i64 4, .int .i64 8, .bool false, .bool false])).run Tryz.prog w10 = .ok () w11 := r10
  have MZ : MapL w11 g sgL := M11
  have MM := hidE MZ
  have BB := hidE B11
  clear M0 B0 M1 B1 M2 B2 M3 B3 M4 B4 M5 B5 M6 B6 M7 B7 M8 B8 M9 B9 M10 B10 M11 B11 MZ K0 r0 K1 r1 K2 r2 K3 r3 K4 r4 K5 r5 K6 r6 K7 r7 K8 r8 K9 r9 K10 r10
  go_enter Tryz.func31, Tryz.ntmps31
  go_wp2_with fail
  go_ret
  exact ⟨rfl, BB.out, MM.out⟩
end Go.Proofs.YtaomljdbndajgaaGreatDoor

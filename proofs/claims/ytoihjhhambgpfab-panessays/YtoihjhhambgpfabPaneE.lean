/- What was added, as rows; the contract of the law's of (what was added to a window and a key), over this seat's translation. Conditions: as named. -/
import Derived.Test.YtoihjhhambgpfabPaneD
import Derived.Test.YtoihjhhambgpfabGathered
namespace Go.Proofs.Ytoihjhhambgpfab
open Go.ChangeShapes Go.WideShapes Go.ChangeAt Go.RowKit
set_option linter.unusedVariables false
set_option linter.unusedSimpArgs false

/-- what was added -/
structure Ad where
  (st k n : Int)
  vs : List V2
  vv : Value
  (up dr : Int)
def cellsAd (a : Ad) : List Value := [.int .i64 a.st, .int .i64 a.k, .int .i64 a.n, a.vv, .int .i64 a.up, .int .i64 a.dr]
theorem cellsAd_len (a : Ad) : (cellsAd a).length = 6 := rfl
def isOf (st k n : Int) (a : Ad) : Bool := a.st == st && (a.k == k && a.n == n)
theorem infoAd : (Try.prog.info? 89).map (fun i => (i.zero, i.size, i.bytes)) = some (some (.agg #[.int .i64 0, .int .i64 0, .int .i64 0, .slice none 0 0, .int .i64 0, .int .i64 0]), 6, 64) := by kernel_rfl
theorem cells6 (w : World) (p : Ad) (g : Nat) (e : TypeId) (hg : g = w.heap.size) : ∀ j u, (cellsAd p)[j]? = some u → (w.alloc (.cells #[.int .i64 p.st, .int .i64 p.k, .int .i64 p.n, p.vv, .int .i64 p.up, .int .i64 p.dr] e)).cell? ((⟨g, 0, none⟩ : Addr).add j) = some u := by
  intro j u h
  subst hg
  have hj : j < 6 := by simpa [cellsAd] using (List.getElem?_eq_some_iff.1 h).1
  have := World.ownsRow_lit (base := 0) (size := 6) (e := e) w #[.int .i64 p.st, .int .i64 p.k, .int .i64 p.n, p.vv, .int .i64 p.up, .int .i64 p.dr] 1 (Nat.zero_le _) (by decide) rfl
  have := this.cellAt j (by omega)
  rw [show (⟨w.heap.size, 0, none⟩ : Addr).add j = ⟨w.heap.size, j, none⟩ from by simp [Addr.add]; intro h; exact h.symm, this]
  exact h
theorem eql_vals (a b c d : Int) (w : World) : (binOp .eql 59 (.agg #[.int .i64 a, .int .i64 b]) (.agg #[.int .i64 c, .int .i64 d])).run Try.prog w = .ok (.bool (a == c && b == d)) w := by
  cases h1 : (a == c) <;> cases h2 : (b == d) <;> go_simp

set_option maxRecDepth 100000 in
set_option maxHeartbeats 2000000 in
theorem of_any (l : List Ad) (v : Value) (st k n : Int) (w : World) (hl : l.length ≤ 100) (hr : RowG w v 6 l.length (rowOf cellsAd l)) (hs : ∀ a ∈ l, ∃ ao n cap, a.vv = .slice ao n cap) :
    Calls Try.prog 38 #[v, .int .i64 st, .agg #[.int .i64 k, .int .i64 n]] w fun e w' => ∃ u, e = .returned u ∧ RowG w' u 6 (l.filter (isOf st k n)).length (rowOf cellsAd (l.filter (isOf st k n))) ∧ Below w.heap.size w w' := by
  obtain ⟨i0, hi, hz0, hz1, hz2⟩ := info_parts infoAd
  obtain ⟨ao, cap, rfl⟩ := rowG_shape hr
  have b1 := (Below.refl w.heap.size w).alloc (Nat.le_refl _) (.cells #[.int .i64 k, .int .i64 n] 59)
  have A0 := hidE (blk_alloc w [.int .i64 k, .int .i64 n] 59 (by simp))
  have HB := hidE b1
  have HR := hidE hr
  have HS := hidE hs
  clear hr hs b1
  go_enter Try.func38, Try.ntmps38
  go_wp2_with fail
  go_loopw [7, 8] (fun v i wr => ∃ (m : Nat), m ≤ l.length ∧ i = .int .i64 m ∧ Hid (wr.ownsRow (w.heap.size + 1) 89 6 v ((l.take m).filter (isOf st k n)).length (rowOf cellsAd ((l.take m).filter (isOf st k n)))) ∧ Hid (BlkAt wr w.heap.size [.int .i64 k, .int .i64 n]) ∧ Hid (Below w.heap.size w wr)) (fun v i _ => l.length - (intOf i).toNat)
  case atStart => exact ⟨0, Nat.zero_le _, rfl, World.ownsRow_nil _ _ _ _, A0, HB⟩
  case round =>
    clear A0 HB
    obtain ⟨m, hm, rfl, HO, A0, HB⟩ := hrel
    obtain ⟨av, cv, rfl⟩ := owns_shapeE HO.out
    by_cases hlt : m < l.length
    · obtain ⟨g, off, rfl, hcell, q1, q2, lg⟩ := rowOf_val cellsAd_len (rowG_below HR.out HB.out) m hlt
      obtain ⟨ap, np, cp, hav⟩ := HS.out l[m] (List.getElem_mem hlt)
      have TK := hidE (take_one l m hlt)
      generalize l[m] = p at *
      obtain ⟨x1, x2, x3, x4, x5, x6, x7⟩ := p
      simp only at hav
      subst hav
      have y0 : wr.cell? ⟨g, off + m * 6, none⟩ = some (.int .i64 x1) := hcell 0 (by omega)
      have y1 : wr.cell? ⟨g, off + m * 6 + 1, none⟩ = some (.int .i64 x2) := hcell 1 (by omega)
      have y2 : wr.cell? ⟨g, off + m * 6 + 2, none⟩ = some (.int .i64 x3) := hcell 2 (by omega)
      have y3 : wr.cell? ⟨g, off + m * 6 + 3, none⟩ = some (.slice ap np cp) := hcell 3 (by omega)
      have y4 : wr.cell? ⟨g, off + m * 6 + 4, none⟩ = some (.int .i64 x6) := hcell 4 (by omega)
      have y5 : wr.cell? ⟨g, off + m * 6 + 5, none⟩ = some (.int .i64 x7) := hcell 5 (by omega)
      have k0 : wr.cell? ⟨w.heap.size, 0, none⟩ = some (.int .i64 k) := A0.out.c 0 (by simp)
      have k1 : wr.cell? ⟨w.heap.size, 1, none⟩ = some (.int .i64 n) := A0.out.c 1 (by simp)
      have lk := A0.out.lt
      have ev := eql_vals x2 x3 k n
      have FE : Hid ((l.take (m + 1)).filter (isOf st k n) = (l.take m).filter (isOf st k n) ++ if isOf st k n ⟨x1, x2, x3, x4, .slice ap np cp, x6, x7⟩ then [⟨x1, x2, x3, x4, .slice ap np cp, x6, x7⟩] else []) := by
        show _ = _
        rw [TK.out, List.filter_append, List.filter_cons]
        rfl
      have HFL : Hid (((l.take m).filter (isOf st k n)).length ≤ 100) := by
        have h1 := List.length_filter_le (isOf st k n) (l.take m)
        have h2 : (l.take m).length ≤ l.length := by rw [List.length_take]; omega
        show _ ≤ _
        omega
      unfold maxLen at q2
      clear hcell TK
      generalize hF : (l.take m).filter (isOf st k n) = F at *
      clear hF
      have HR0 : Hid (Below wr.heap.size wr wr) := Below.refl _ _
      have kn := kin_some wr
      obtain ⟨kc, kf⟩ := kin_rules wr
      have IS : Hid (isOf st k n ⟨x1, x2, x3, x4, .slice ap np cp, x6, x7⟩ = (x1 == st && (x2 == k && x3 == n))) := rfl
      rw [IS.out] at FE
      clear IS
      generalize hb2 : (x2 == k && x3 == n) = b2 at *
      generalize hb1 : (x1 == st) = b1 at *
      clear hb2
      cases b1 <;> cases b2
      · go_wp2_with fail
        refine wp_region_kin HR0 (by kernel_rfl) (by kernel_rfl) ?_
        repeat (go_big_quiet_step (fail))
        refine wpQuiet_nil ?_
        rintro _ ⟨pk, rfl⟩
        have HP := pk.h
        have HO2 := hidE (own_keep HO.out HP (Nat.le_refl _))
        have A2 := hidE (blk_below A0.out HP A0.out.lt)
        have HB2 := nxt HB HP
        generalize pk.w = wp at *
        clear kc kf kn HR0 HP HO A0 HB
        go_wp2_with fail
        go_roundw
        case rel => exact ⟨m + 1, by omega, by go_num, by rw [FE.out]; simpa using HO2, A2, HB2⟩
        case measure => simp [intOf]; omega
      · go_wp2_with fail
        refine wp_region_kin HR0 (by kernel_rfl) (by kernel_rfl) ?_
        repeat (go_big_quiet_step (fail))
        refine wpQuiet_nil ?_
        rintro _ ⟨pk, rfl⟩
        have HP := pk.h
        have HO2 := hidE (own_keep HO.out HP (Nat.le_refl _))
        have A2 := hidE (blk_below A0.out HP A0.out.lt)
        have HB2 := nxt HB HP
        generalize pk.w = wp at *
        clear kc kf kn HR0 HP HO A0 HB
        go_wp2_with fail
        go_roundw
        case rel => exact ⟨m + 1, by omega, by go_num, by rw [FE.out]; simpa using HO2, A2, HB2⟩
        case measure => simp [intOf]; omega
      · go_wp2_with fail
        refine wp_region_kin HR0 (by kernel_rfl) (by kernel_rfl) ?_
        repeat (go_big_quiet_step (fail))
        refine wpQuiet_nil ?_
        rintro _ ⟨pk, rfl⟩
        have HP := pk.h
        have HO2 := hidE (own_keep HO.out HP (Nat.le_refl _))
        have A2 := hidE (blk_below A0.out HP A0.out.lt)
        have HB2 := nxt HB HP
        generalize pk.w = wp at *
        clear kc kf kn HR0 HP HO A0 HB
        go_wp2_with fail
        go_roundw
        case rel => exact ⟨m + 1, by omega, by go_num, by rw [FE.out]; simpa using HO2, A2, HB2⟩
        case measure => simp [intOf]; omega
      · go_wp2_with fail
        refine wp_region_kin HR0 (by kernel_rfl) (by kernel_rfl) ?_
        repeat (go_big_quiet_step (fail))
        refine wpQuiet_nil ?_
        rintro _ ⟨pk, rfl⟩
        have HP := pk.h
        have HO2 := hidE (own_keep HO.out HP (Nat.le_refl _))
        have A2 := hidE (blk_below A0.out HP A0.out.lt)
        have HB2 := nxt HB HP
        rw [← HP.cell (p := ⟨g, off + m * 6, none⟩) lg] at y0
        rw [← HP.cell (p := ⟨g, off + m * 6 + 1, none⟩) lg] at y1
        rw [← HP.cell (p := ⟨g, off + m * 6 + 2, none⟩) lg] at y2
        rw [← HP.cell (p := ⟨g, off + m * 6 + 3, none⟩) lg] at y3
        rw [← HP.cell (p := ⟨g, off + m * 6 + 4, none⟩) lg] at y4
        rw [← HP.cell (p := ⟨g, off + m * 6 + 5, none⟩) lg] at y5
        generalize pk.w = wp at *
        clear kc kf kn HR0 HP HO A0 HB k0 k1 lk ev
        have al := (Below.refl wp.heap.size wp).alloc (Nat.le_refl _) (.cells #[.int .i64 x1, .int .i64 x2, .int .i64 x3, .slice ap np cp, .int .i64 x6, .int .i64 x7] 89)
        have HRV := hidE (own_keep HO2.out al (Nat.le_refl _))
        have HSZ : Hid (w.heap.size + 1 ≤ (wp.alloc (.cells #[.int .i64 x1, .int .i64 x2, .int .i64 x3, .slice ap np cp, .int .i64 x6, .int .i64 x7] 89)).heap.size) := hidE (by have := A2.out.lt; have := al.size; omega)
        have AL := hidE al
        have CN := hidE (cells6 wp ⟨x1, x2, x3, x4, .slice ap np cp, x6, x7⟩ wp.heap.size 89 rfl)
        have hfl := HFL.out
        clear al
        go_wp2_with (at_builtin; go_must (refine wpList_append_own_at _ rfl (.tmp 31) (.tmp 36) 83 rfl (w.heap.size + 1) 89 i0 (.agg #[.int .i64 0, .int .i64 0, .int .i64 0, .slice none 0 0, .int .i64 0, .int .i64 0]) 6 64 Try.underlying83 hi hz0 hz1 hz2 rfl (by decide) _ _ _ rfl HRV.out _ 1 1 (cellsAd ⟨x1, x2, x3, x4, .slice ap np cp, x6, x7⟩) rfl rfl CN.out (by simp [cellsAd, Value.oneCell']) (by show _ ≤ 2 ^ 63 - 1; omega) (by omega) HSZ.out ?_))
        intro v' w6 ho hg _ hob
        have HB6 := hidE ((HB2.out.alloc HB2.out.size (.cells #[.int .i64 x1, .int .i64 x2, .int .i64 x3, .slice ap np cp, .int .i64 x6, .int .i64 x7] 89)).grown hg (by have := HB2.out.size; have := AL.out.size; omega) (fun k hk => by have := (own_at HO2.out k hk).1; omega))
        have A6 := hidE (blk_grown (blk_below A2.out AL.out A2.out.lt) hg (fun e => by have := (own_at HO2.out _ e).1; omega))
        obtain ⟨a6, c6, rfl⟩ := owns_shapeE ho
        have HO6 := hidE ho
        clear ho hg hob HO2 HB2 A2 AL HRV HSZ CN y0 y1 y2 y3 y4 y5
        go_wp2_with fail
        go_roundw
        case rel => exact ⟨m + 1, by omega, by go_num, by
          rw [FE.out]
          simp only [Bool.and_true, Bool.and_self, if_true]
          rw [List.length_append, rowOf_app, rowOf_one]
          exact HO6, A6, HB6⟩
        case measure => simp [intOf]; omega
    · have hme : m = l.length := by omega
      subst hme
      simp only [List.take_length] at HO ⊢
      go_wp2_with fail
      go_ret
      exact ⟨_, rfl, rowG_of_owns HO.out, HB.out⟩
end Go.Proofs.Ytoihjhhambgpfab

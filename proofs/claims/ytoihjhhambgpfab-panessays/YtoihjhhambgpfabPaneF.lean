/- The contract of the law's outOf (what was added, gathered), over this seat's translation. Conditions: as named. -/
import Derived.Test.YtoihjhhambgpfabPaneE
namespace Go.Proofs.Ytoihjhhambgpfab
open Go.ChangeShapes Go.WideShapes Go.ChangeAt Go.RowKit
set_option linter.unusedVariables false
set_option linter.unusedSimpArgs false

def col (l : List Ad) (i : Nat) : List V2 := l.map fun a => a.vs.getD i (0, 0)
def outK (l : List Ad) (ks : List Int) (i : Nat) : V2 := rval (ks.getD i 0) (rfold (ks.getD i 0) (col l i))
def outs (l : List Ad) (ks : List Int) (m : Nat) : List V2 := (List.range m).map (outK l ks)
theorem outs_len (l : List Ad) (ks : List Int) (m : Nat) : (outs l ks m).length = m := by simp [outs]
theorem outs_next (l : List Ad) (ks : List Int) (m : Nat) : outs l ks (m + 1) = outs l ks m ++ [outK l ks m] := by simp [outs, List.range_succ]
theorem col_next (l : List Ad) (i j : Nat) (hj : j < l.length) : (col l i).take (j + 1) = (col l i).take j ++ [l[j].vs.getD i (0, 0)] := by
  unfold col
  rw [take_one _ j (by rw [List.length_map]; exact hj), List.getElem_map]
theorem infoV2 : (Try.prog.info? 59).map (fun i => (i.zero, i.size, i.bytes)) = some (some (.agg #[.int .i64 0, .int .i64 0]), 2, 16) := infoVv

set_option maxRecDepth 100000 in
set_option maxHeartbeats 1000000 in
theorem outOf_any (l : List Ad) (v : Value) (ks : List Int) (kv : Value) (w : World) (hl : 0 < l.length) (hl2 : l.length ≤ 60) (hkl : ks.length ≤ 50) (hkk : ∀ k ∈ ks, 1 ≤ k ∧ k ≤ 5) (hr : RowG w v 6 l.length (rowOf cellsAd l)) (hkv : RowG w kv 1 ks.length (ks.map (Value.int .i64)))
    (ha : ∀ a ∈ l, RowG w a.vv 2 a.vs.length (rowV a.vs) ∧ a.vs.length = ks.length) :
    Calls Try.prog 42 #[v, kv] w fun e w' => ∃ u, e = .returned (.agg #[.int .i64 l[0].st, .int .i64 l[0].k, .int .i64 l[0].n, u]) ∧ RowG w' u 2 ks.length (rowV (outs l ks ks.length)) ∧ Below w.heap.size w w' := by
  obtain ⟨i0, hi, hz0, hz1, hz2⟩ := info_parts infoV2
  obtain ⟨ao, cap, rfl⟩ := rowG_shape hr
  obtain ⟨ak, ck, rfl⟩ := rowG_shape hkv
  obtain ⟨g, off, rfl, hcell, q1, q2, lg⟩ := rowOf_val cellsAd_len hr 0 hl
  have x0 : w.cell? ⟨g, off, none⟩ = some (.int .i64 l[0].st) := by simpa [cellsAd] using hcell 0 (by omega)
  have x1 : w.cell? ⟨g, off + 1, none⟩ = some (.int .i64 l[0].k) := by simpa [cellsAd] using hcell 1 (by omega)
  have x2 : w.cell? ⟨g, off + 2, none⟩ = some (.int .i64 l[0].n) := by simpa [cellsAd] using hcell 2 (by omega)
  generalize l[0].st = t1 at *
  generalize l[0].k = t2 at *
  generalize l[0].n = t3 at *
  have b1 := (Below.refl w.heap.size w).alloc (Nat.le_refl _) (.cells #[.int .i64 0, .int .i64 0, .int .i64 0, .slice none 0 0] 99)
  have HR := hidE hr
  have HKV := hidE hkv
  have HKK := hidE hkk
  have HA := hidE ha
  have HB := hidE b1
  unfold maxLen at q2
  clear hr hkv hkk ha b1 hcell
  go_enter Try.func42, Try.ntmps42
  go_wp2_with fail
  have dd : Below (w.alloc (.cells #[.int .i64 0, .int .i64 0, .int .i64 0, .slice none 0 0] 99)).heap.size (w.alloc (.cells #[.int .i64 0, .int .i64 0, .int .i64 0, .slice none 0 0] 99)) ({ (w.alloc (.cells #[.int .i64 0, .int .i64 0, .int .i64 0, .slice none 0 0] 99)) with drawn := (w.alloc (.cells #[.int .i64 0, .int .i64 0, .int .i64 0, .slice none 0 0] 99)).drawn + 1 } : World) := (Below.refl _ _).drew
  have HBD := nxt HB dd
  have A0 := blk_alloc w [.int .i64 0, .int .i64 0, .int .i64 0, .slice none 0 0] 99 (by simp)
  have R0 := hidE (blk_below A0 dd A0.lt)
  have SZ : ({ (w.alloc (.cells #[.int .i64 0, .int .i64 0, .int .i64 0, .slice none 0 0] 99)) with drawn := (w.alloc (.cells #[.int .i64 0, .int .i64 0, .int .i64 0, .slice none 0 0] 99)).drawn + 1 } : World).heap.size = w.heap.size + 1 := by simp
  refine wp_region_last (fun w' => Below ({ (w.alloc (.cells #[.int .i64 0, .int .i64 0, .int .i64 0, .slice none 0 0] 99)) with drawn := (w.alloc (.cells #[.int .i64 0, .int .i64 0, .int .i64 0, .slice none 0 0] 99)).drawn + 1 } : World).heap.size ({ (w.alloc (.cells #[.int .i64 0, .int .i64 0, .int .i64 0, .slice none 0 0] 99)) with drawn := (w.alloc (.cells #[.int .i64 0, .int .i64 0, .int .i64 0, .slice none 0 0] 99)).drawn + 1 } : World) w') 10 (by kernel_rfl) ?_
  generalize hwd : ({ (w.alloc (.cells #[.int .i64 0, .int .i64 0, .int .i64 0, .slice none 0 0] 99)) with drawn := (w.alloc (.cells #[.int .i64 0, .int .i64 0, .int .i64 0, .slice none 0 0] 99)).drawn + 1 } : World) = wd at *
  clear hwd dd A0 HB
  have hS := Below.refl wd.heap.size wd
  have AL := hidE ((Below.refl wd.heap.size wd).alloc (Nat.le_refl _) (.cells #[.int .i64 0, .int .i64 0, .int .i64 0, .slice none 0 0] 99))
  rw [← HBD.out.cell (p := ⟨g, off, none⟩) lg] at x0
  rw [← HBD.out.cell (p := ⟨g, off + 1, none⟩) lg] at x1
  rw [← HBD.out.cell (p := ⟨g, off + 2, none⟩) lg] at x2
  have lgd : g < wd.heap.size := Nat.lt_of_lt_of_le lg HBD.out.size
  have SZH := hidE SZ
  clear SZ
  refine last_take (i := 0) (v := .slice (some ⟨g, off, none⟩) l.length cap) (L := #[true, false, false, false, false, false, false, false, false, false, false]) [1, 2, 3, 8, 10] rfl (by kernel_rfl) (by kernel_rfl) (by kernel_rfl) (by kernel_rfl) (by kernel_rfl) (fun c a w h => h) (Or.inl ⟨by kernel_rfl, fun wq hq => by go_simp⟩) hS (by kernel_rfl) ?_
  refine last_take (i := 1) (v := .pointer (some ⟨g, off, none⟩)) (L := #[true, true, false, false, false, false, false, false, false, false, false]) [2, 3, 8, 10] rfl (by kernel_rfl) (by kernel_rfl) (by kernel_rfl) (by kernel_rfl) (by kernel_rfl) (fun c a w h => h) (Or.inl ⟨by kernel_rfl, fun wq hq => by go_simp⟩) hS (by kernel_rfl) ?_
  refine last_take (i := 2) (v := .pointer (some ⟨g, off, none⟩)) (L := #[true, true, true, false, false, false, false, false, false, false, false]) [3, 8, 10] rfl (by kernel_rfl) (by kernel_rfl) (by kernel_rfl) (by kernel_rfl) (by kernel_rfl) (fun c a w h => h) (Or.inl ⟨by kernel_rfl, fun wq hq => by go_simp⟩) hS (by kernel_rfl) ?_
  refine last_take (i := 3) (v := .int .i64 t1) (L := #[true, true, true, true, false, false, false, false, false, false, false]) [8, 10] rfl (by kernel_rfl) (by kernel_rfl) (by kernel_rfl) (by kernel_rfl) (by kernel_rfl) (fun c a w h => h) (Or.inl ⟨by kernel_rfl, fun wq hq => by have q := hq.cell (p := ⟨g, off, none⟩) lgd; rw [x0] at q; go_simp⟩) hS (by kernel_rfl) ?_
  refine last_take (i := 4) (v := .slice (some ⟨g, off, none⟩) l.length cap) (L := #[true, true, true, true, true, false, false, false, false, false, false]) [5, 6, 7, 8, 10] rfl (by kernel_rfl) (by kernel_rfl) (by kernel_rfl) (by kernel_rfl) (by kernel_rfl) (fun c a w h => h) (Or.inl ⟨by kernel_rfl, fun wq hq => by go_simp⟩) hS (by kernel_rfl) ?_
  refine last_take (i := 5) (v := .pointer (some ⟨g, off, none⟩)) (L := #[true, true, true, true, true, true, false, false, false, false, false]) [6, 7, 8, 10] rfl (by kernel_rfl) (by kernel_rfl) (by kernel_rfl) (by kernel_rfl) (by kernel_rfl) (fun c a w h => h) (Or.inl ⟨by kernel_rfl, fun wq hq => by go_simp⟩) hS (by kernel_rfl) ?_
  refine last_take (i := 6) (v := .pointer (some ⟨g, off + 1, none⟩)) (L := #[true, true, true, true, true, true, true, false, false, false, false]) [7, 8, 10] rfl (by kernel_rfl) (by kernel_rfl) (by kernel_rfl) (by kernel_rfl) (by kernel_rfl) (fun c a w h => h) (Or.inl ⟨by kernel_rfl, fun wq hq => by go_simp⟩) hS (by kernel_rfl) ?_
  refine last_take (i := 7) (v := .agg #[.int .i64 t2, .int .i64 t3]) (L := #[true, true, true, true, true, true, true, true, false, false, false]) [8, 10] rfl (by kernel_rfl) (by kernel_rfl) (by kernel_rfl) (by kernel_rfl) (by kernel_rfl) (fun c a w h => h) (Or.inl ⟨by kernel_rfl, fun wq hq => by have q1 := hq.cell (p := ⟨g, off + 1, none⟩) lgd; rw [x1] at q1; have q2 := hq.cell (p := ⟨g, off + 2, none⟩) lgd; rw [x2] at q2; go_simp⟩) hS (by kernel_rfl) ?_
  refine last_take (i := 8) (v := .agg #[.int .i64 t1, .int .i64 t2, .int .i64 t3, .slice none 0 0]) (L := #[true, true, true, true, true, true, true, true, true, false, false]) [10] rfl (by kernel_rfl) (by kernel_rfl) (by kernel_rfl) (by kernel_rfl) (by kernel_rfl) (fun c a w h => h) (Or.inl ⟨by kernel_rfl, fun wq hq => by go_simp⟩) hS (by kernel_rfl) ?_
  refine last_go (i := 9) (L := #[true, true, true, true, true, true, true, true, true, true, false]) (by kernel_rfl) rfl (by kernel_rfl) (by kernel_rfl) ?_
  intro K' hK
  go_simp
  refine hK _ _ ⟨fun _ => AL.out, ?_⟩
  clear hK
  refine last_go (i := 10) (L := #[true, true, true, true, true, true, true, true, true, true, true]) (by kernel_rfl) rfl (by kernel_rfl) (by kernel_rfl) ?_
  intro K' hK
  go_simp
  refine hK _ _ ⟨fun h => absurd rfl h, ?_⟩
  clear hK
  refine last_done (by kernel_rfl) ?_ _
  have A1 := hidE (blk_alloc wd [.int .i64 t1, .int .i64 t2, .int .i64 t3, .slice none 0 0] 99 (by simp))
  have R1 := hidE (blk_below R0.out ((Below.refl wd.heap.size wd).alloc (Nat.le_refl _) (.cells #[.int .i64 t1, .int .i64 t2, .int .i64 t3, .slice none 0 0] 99)) R0.out.lt)
  have HB1 := nxta HBD (.cells #[.int .i64 t1, .int .i64 t2, .int .i64 t3, .slice none 0 0] 99)
  have hoz : w.heap.size < wd.heap.size := by have := SZH.out; omega
  generalize hoo : wd.heap.size = o at *
  clear hoo SZH AL hS x0 x1 x2 lgd HBD R0
  go_wp2_with fail
  go_loopw [6] (fun i wr => ∃ (m : Nat) (u : Value), m ≤ ks.length ∧ i = .int .i64 m ∧ Hid (BlkAt wr o [.int .i64 t1, .int .i64 t2, .int .i64 t3, u]) ∧ Hid (wr.ownsRow (o + 1) 59 2 u m (rowV (outs l ks m))) ∧ Hid (BlkAt wr w.heap.size [.int .i64 0, .int .i64 0, .int .i64 0, .slice none 0 0]) ∧ Hid (Below w.heap.size w wr)) (fun i _ => ks.length - (intOf i).toNat)
  case atStart => exact ⟨0, _, Nat.zero_le _, rfl, A1, World.ownsRow_nil _ _ _ _, R1, HB1⟩
  case round =>
    clear A1 R1 HB1
    obtain ⟨m, u, hm, rfl, A1, HU, R1, HB⟩ := hrel
    obtain ⟨au, cu, rfl⟩ := owns_shapeE HU.out
    by_cases hlt : m < ks.length
    · obtain ⟨wo, hwo⟩ : ∃ wo, wo = wr := ⟨_, rfl⟩
      subst hwo
      go_wp2_with fail
      go_loopw [7, 8] (fun v j wi => ∃ q : Nat, q ≤ l.length ∧ j = .int .i64 q ∧ Hid (wi.ownsRow wo.heap.size 59 2 v q (rowV ((col l m).take q))) ∧ Hid (Below wo.heap.size wo wi)) (fun v j _ => l.length - (intOf j).toNat)
      case atStart => exact ⟨0, Nat.zero_le _, rfl, World.ownsRow_nil _ _ _ _, Below.refl _ _⟩
      case round =>
        obtain ⟨q, hq, rfl, HV, HI⟩ := hrel
        obtain ⟨av, cv, rfl⟩ := owns_shapeE HV.out
        have HBI := nxt HB HI.out
        by_cases hql : q < l.length
        · obtain ⟨g2, off2, e2, hc2, _, _, _⟩ := rowOf_val cellsAd_len (rowG_below HR.out HBI.out) q hql
          cases e2
          obtain ⟨ra, rl⟩ := HA.out l[q] (List.getElem_mem hql)
          obtain ⟨ap, cp, hav⟩ := rowG_shape ra
          rw [hav] at ra
          obtain ⟨g3, off3, e3, z0, z1, p1, p2, p3⟩ := rowV_in ra HBI.out m (by omega)
          subst e3
          have CN := hidE (col_next l m q hql)
          have GD : l[q].vs.getD m (0, 0) = l[q].vs[m]'(by omega) := by simp [List.getD, rl, hlt]
          rw [GD] at CN
          have hlv : l[q].vs.length = ks.length := rl
          generalize l[q].vs[m]'(by omega) = x at *
          obtain ⟨xk, xn⟩ := x
          simp only at z0 z1
          have y3 : wr.cell? ⟨g, off + q * 6 + 3, none⟩ = some (.slice (some ⟨g3, off3, none⟩) ks.length cp) := by
            have h9 := hc2 3 (by omega)
            rw [show (cellsAd l[q])[3]? = some l[q].vv from rfl, hav, hlv] at h9
            exact h9
          rw [hlv] at p1
          unfold maxLen at p2
          have al := (Below.refl wr.heap.size wr).alloc (Nat.le_refl _) (.cells #[.int .i64 xk, .int .i64 xn] 59)
          have HRV := hidE (own_keep HV.out al (Nat.le_refl _))
          have HSZ : Hid (wo.heap.size ≤ (wr.alloc (.cells #[.int .i64 xk, .int .i64 xn] 59)).heap.size) := hidE (by have := HI.out.size; have := al.size; omega)
          have AL := hidE al
          clear al hc2 ra rl hav GD hlv HBI
          go_wp2_with (at_builtin; go_must (refine wpList_append_own_at _ rfl (.tmp 31) (.tmp 40) 53 rfl wo.heap.size 59 i0 (.agg #[.int .i64 0, .int .i64 0]) 2 16 Try.underlying53 hi hz0 hz1 hz2 rfl (by decide) _ _ _ rfl HRV.out _ 1 1 [.int .i64 xk, .int .i64 xn] rfl rfl (cell_two_newE _ _ _ _) (by simp [Value.oneCell']) (by show _ ≤ 2 ^ 63 - 1; omega) (by omega) HSZ.out ?_))
          intro v' w6 ho hg _ hob
          have HI6 := hidE ((HI.out.alloc HI.out.size (.cells #[.int .i64 xk, .int .i64 xn] 59)).grown hg (by have := HI.out.size; have := AL.out.size; omega) (fun k hk => by have := (own_at HV.out k hk).1; omega))
          obtain ⟨a6, c6, rfl⟩ := owns_shapeE ho
          have HO6 := hidE ho
          clear ho hg hob HV HI AL HRV HSZ y3 z0 z1
          go_wp2_with fail
          go_roundw
          case rel => exact ⟨q + 1, by omega, by go_num, by
            rw [CN.out]
            show World.ownsRow _ _ _ _ _ _ _
            rw [rowV_is, rowOf_app, rowOf_one]
            exact HO6, HI6⟩
          case measure => simp [intOf]; omega
        · have hqe : q = l.length := by omega
          subst hqe
          have hcl : (col l m).take l.length = col l m := by
            rw [List.take_of_length_le]
            simp [col]
          rw [hcl] at HV
          obtain ⟨gk, offk, xk, ek, hxk, hck, k1, k2, k3⟩ := rowG_cell (rowG_below HKV.out HBI.out) m hlt
          subst ek
          obtain ⟨kd, hkd, hkx⟩ : ∃ kd, ks[m]? = some kd ∧ xk = .int .i64 kd := by
            rw [List.getElem?_map] at hxk
            rw [List.getElem?_eq_getElem hlt] at hxk ⊢
            exact ⟨_, rfl, (Option.some.inj hxk).symm⟩
          subst hkx
          obtain ⟨kk1, kk2⟩ := HKK.out kd (List.mem_of_getElem? hkd)
          have GA := hidE (gathered_any kd (col l m) _ wr (by simp [col]; omega) (by simpa [col] using rowG_of_owns HV.out) kk1 kk2)
          have OK : Hid (outK l ks m = rval kd (rfold kd (col l m))) := by
            show _ = _
            unfold outK
            rw [List.getD_eq_getElem?_getD, hkd]
            rfl
          generalize rval kd (rfold kd (col l m)) = x at *
          obtain ⟨xa, xb⟩ := x
          simp only at GA
          have A2 := hidE (blk_below A1.out HI.out A1.out.lt)
          have R2 := hidE (blk_below R1.out HI.out R1.out.lt)
          have HU2 := hidE (own_keep HU.out HI.out (Nat.le_refl _))
          unfold maxLen at k2
          have SI := HI.out.size
          clear HV HI HB hcl hxk A1 R1 HU
          go_wp2_with fail
          refine GA.out.mono ?_
          rintro e w2 ⟨rfl, hb⟩
          have hA := (Below.refl w2.heap.size w2).alloc (Nat.le_refl _) (.cells #[.int .i64 xa, .int .i64 xb] 59)
          have hA2 := hA.alloc hA.size (.cells #[.int .i64 xa, .int .i64 xb] 59)
          have A3 := blk_below (blk_below A2.out hb A2.out.lt) hA2 (Nat.lt_of_lt_of_le A2.out.lt hb.size)
          have R3 := blk_below (blk_below R2.out hb R2.out.lt) hA2 (Nat.lt_of_lt_of_le R2.out.lt hb.size)
          have HU3 := hidE (own_keep (own_keep HU2.out hb (Nat.le_refl _)) hA2 (Nat.le_refl _))
          have HB3 := nxt (nxt HBI hb) hA2
          have A3' := blk_below (blk_below A2.out hb A2.out.lt) hA (Nat.lt_of_lt_of_le A2.out.lt hb.size)
          have c3 : (w2.alloc (.cells #[.int .i64 xa, .int .i64 xb] 59)).cell? ⟨o, 3, none⟩ = some (.slice au m cu) := A3'.c 3 (by simp)
          have HSZ : Hid (o + 1 ≤ ((w2.alloc (.cells #[.int .i64 xa, .int .i64 xb] 59)).alloc (.cells #[.int .i64 xa, .int .i64 xb] 59)).heap.size) := hidE (by have := A3.lt; omega)
          have A3 := hidE A3
          have R3 := hidE R3
          have lo := A3'.lt
          have CN := hidE (cell_two_newE (w2.alloc (.cells #[.int .i64 xa, .int .i64 xb] 59)) (.int .i64 xa) (.int .i64 xb) 59)
          rw [show (w2.alloc (.cells #[.int .i64 xa, .int .i64 xb] 59)).heap.size = w2.heap.size + 1 from by simp] at CN
          clear hb hA hA2 A2 R2 HU2 HBI GA A3' hck
          go_wp2_with (at_builtin; go_must (refine wpList_append_own_at _ rfl (.tmp 49) (.tmp 51) 53 rfl (o + 1) 59 i0 (.agg #[.int .i64 0, .int .i64 0]) 2 16 Try.underlying53 hi hz0 hz1 hz2 rfl (by decide) _ _ _ rfl HU3.out _ 1 1 [.int .i64 xa, .int .i64 xb] rfl rfl CN.out (by simp [Value.oneCell']) (by show _ ≤ 2 ^ 63 - 1; omega) (by omega) HSZ.out ?_))
          intro v' w6 ho hg _ hob
          have A6 := blk_grown A3.out hg (fun e => by have := (own_at HU3.out _ e).1; omega)
          have R6 := blk_grown R3.out hg (fun e => by have := (own_at HU3.out _ e).1; omega)
          have HB6 := HB3.out.grown hg HB3.out.size (fun k hk => by have := (own_at HU3.out k hk).1; omega)
          obtain ⟨a6, c6, rfl⟩ := owns_shapeE ho
          have NB : (Value.slice a6 (m + 1) c6).ownBlock ≠ some o := fun e => by have := (own_at ho _ e).1; omega
          have HO7 := hidE (ownsRow_setCell_other (a := ⟨o, 3, none⟩) ho NB (.slice a6 (m + 1) c6))
          have A7 := hidE (blk_set A6 3 (.slice a6 (m + 1) c6) (by simp))
          have R7 := hidE (blk_far R6 (g' := o) (by omega) 3 (.slice a6 (m + 1) c6))
          have HB7 := hidE (HB6.setCell (p := ⟨o, 3, none⟩) (by show _ ≤ o; omega) (.slice a6 (m + 1) c6))
          have d3 : w6.cell? ⟨o, 3, none⟩ = some (.slice au m cu) := A6.c 3 (by simp)
          have f3 := A6.fz 3
          clear ho hg hob A6 R6 HB6 NB A3 R3 HU3 HB3 HSZ CN c3 lo
          go_wp2_with fail
          go_roundw
          case rel => exact ⟨m + 1, .slice a6 (m + 1) c6, by omega, by go_num, by simpa using A7, by
            rw [outs_next, OK.out]
            show World.ownsRow _ _ _ _ _ _ _
            rw [rowV_is, rowOf_app, rowOf_one]
            exact HO7, R7, HB7⟩
          case measure => simp [intOf]; omega
    · have hme : m = ks.length := by omega
      subst hme
      have c0 : wr.cell? ⟨o, 0, none⟩ = some (.int .i64 t1) := A1.out.c 0 (by simp)
      have c1 : wr.cell? ⟨o, 1, none⟩ = some (.int .i64 t2) := A1.out.c 1 (by simp)
      have c2 : wr.cell? ⟨o, 2, none⟩ = some (.int .i64 t3) := A1.out.c 2 (by simp)
      have c3 : wr.cell? ⟨o, 3, none⟩ = some (.slice au ks.length cu) := A1.out.c 3 (by simp)
      have r0 : wr.cell? ⟨w.heap.size, 0, none⟩ = some (.int .i64 0) := R1.out.c 0 (by simp)
      have r1 : wr.cell? ⟨w.heap.size, 1, none⟩ = some (.int .i64 0) := R1.out.c 1 (by simp)
      have r2 : wr.cell? ⟨w.heap.size, 2, none⟩ = some (.int .i64 0) := R1.out.c 2 (by simp)
      have r3 : wr.cell? ⟨w.heap.size, 3, none⟩ = some (.slice none 0 0) := R1.out.c 3 (by simp)
      have f0 := R1.out.fz 0
      have f1 := R1.out.fz 1
      have f2 := R1.out.fz 2
      have f3 := R1.out.fz 3
      go_wp2_with fail
      refine bodyPost_ret (v := .agg #[.int .i64 t1, .int .i64 t2, .int .i64 t3, .slice au ks.length cu]) (by simp [results, Try.results42, go_sem, r0, r1, r2, r3]) rfl ⟨_, rfl, ?_, ?_⟩
      · refine rowG_of_owns (base := o + 1) (e := 59) ?_
        iterate 4 (refine ownsRow_setCell_other ?_ (fun e => by have h9 := (own_at HU.out w.heap.size e).1; omega) _)
        exact HU.out
      · iterate 4 (refine Below.setCell ?_ (by first | (simp; done) | (simp; omega)) _)
        exact HB.out
end Go.Proofs.Ytoihjhhambgpfab

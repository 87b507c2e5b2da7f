/- The contract of the document's disk's Restart, over this seat's translation. Conditions: as named. -/
import Derived.Test.YtjiopjdbifcfkacRef3
import Derived.Deep.DeepCutAuto
namespace Go.Proofs.Ytjiopjdbifcfkac
open Go.ChangeShapes Go.WideShapes Go.ChangeAt Go.RowKit
set_option linter.unusedVariables false
set_option linter.unusedSimpArgs false

/-- what is kept behind the first m of what waits -/
def rk (keep : Int) (kl : List ByteArray) (tl : List Tn) : Nat → List ByteArray
  | 0 => kl
  | m + 1 => match tl[m]? with
    | some p => if kb keep ((m % 64 : Nat) : Int) then (rk keep kl tl m).set p.1.toNat p.2 else rk keep kl tl m
    | none => rk keep kl tl m
theorem rk_len (keep : Int) (kl : List ByteArray) (tl : List Tn) : ∀ m, (rk keep kl tl m).length = kl.length
  | 0 => rfl
  | m + 1 => by
    unfold rk
    have ih := rk_len keep kl tl m
    split
    · split
      · rw [List.length_set]; exact ih
      · exact ih
    · exact ih
set_option maxRecDepth 100000 in
set_option maxHeartbeats 1000000 in
theorem rrestart_any {B gr : Nat} {kl nl : List ByteArray} {tl : List Tn} {fuse : Int} {down : Bool} {kv nv tv : Value} (keep : Int) (hkeep : 0 ≤ keep ∧ keep ≤ 18446744073709551615) (w : World) (h : RefD w B gr kl nl tl fuse down kv nv tv) (hk0 : 0 < kl.length) (hk1 : kl.length ≤ 1000) (ht1 : tl.length ≤ 1000)
    (hin : ∀ p ∈ tl, 0 ≤ p.1 ∧ p.1 < (kl.length : Int)) :
    Calls Try.prog 19 #[.pointer (some ⟨gr, 0, none⟩), .int .u64 keep] w fun e w' => e = .returned (.tuple #[]) ∧ KeptB w w' (fun k => k = gr ∨ kv.ownBlock = some k) ∧ ∃ nv', (∀ k, nv'.ownBlock = some k → w.heap.size ≤ k) ∧ RefD w' B gr (rk keep kl tl tl.length) (rk keep kl tl tl.length) [] (-1) false kv nv' (.slice none 0 0) := by
  obtain ⟨i0, hi, hz0, hz1, hz2⟩ := info_parts infoSt
  have HD := hidE h
  have HIN := hidE hin
  obtain ⟨at3, ct, htv⟩ := owns_shapeE h.tr
  obtain ⟨gk, ck, hkv, hbk, hgk, hlek, hmk⟩ := owns_head h.kr hk0
  have HKV := hidE hkv
  subst htv
  unfold maxLen at hmk
  clear h hin hkv
  go_enter Try.func19, Try.ntmps19
  go_wp2_with fail
  go_loopw [4] (fun i wr => ∃ m : Nat, m ≤ tl.length ∧ i = .int .i64 m ∧ Hid (RefD wr B gr (rk keep kl tl m) nl tl fuse down kv nv (.slice at3 tl.length ct)) ∧ Hid (KeptB w wr (fun k => kv.ownBlock = some k))) (fun i _ => tl.length - (intOf i).toNat)
  case atStart => exact ⟨0, Nat.zero_le _, rfl, HD, keptB_of_below (Below.refl _ _)⟩
  case round =>
    obtain ⟨m, hm, rfl, HR, HK⟩ := hrel
    have c2 : wr.cell? ⟨gr, 2, none⟩ = some (.slice at3 tl.length ct) := HR.out.bd.c 2 (by simp)
    have lgr := HR.out.bd.lt
    by_cases hlt : m < tl.length
    · obtain ⟨gt, ct', hat, hbt, hgt, hlet, hmt⟩ := owns_head HR.out.tr (by omega)
      cases hat
      have hm64 : ((m : Int) % 64) = ((m % 64 : Nat) : Int) := by omega
      have dn : decide (((m : Int) % 64) < 0) = false := by simp; omega
      have hcell : ∀ q, q < 2 → wr.cell? ⟨gt, m * 2 + q, none⟩ = (cellsT tl[m])[q]? := fun q hq => by
        have h9 := World.ownsRow.cellAt HR.out.tr (m * 2 + q) (idx_lt hlt hq)
        rw [h9, rowOf_at cellsT_len tl m q tl[m] (List.getElem?_eq_getElem hlt) hq]
      have hpin := HIN.out tl[m] (List.getElem_mem hlt)
      have RK : Hid (∀ b, kb keep ((m % 64 : Nat) : Int) = b → rk keep kl tl (m + 1) = if b then (rk keep kl tl m).set tl[m].1.toNat tl[m].2 else rk keep kl tl m) := fun b hb => by
        show rk keep kl tl (m + 1) = _
        conv => lhs; unfold rk
        rw [List.getElem?_eq_getElem hlt]
        simp only [hb]
      obtain ⟨i, hi9⟩ : ∃ i : Nat, tl[m].1 = (i : Int) := ⟨tl[m].1.toNat, by omega⟩
      have hik : i < kl.length := by omega
      obtain ⟨dt, hdt⟩ : ∃ dt, tl[m].2 = dt := ⟨_, rfl⟩
      have y0 : wr.cell? ⟨gt, m * 2, none⟩ = some (.int .i64 (i : Int)) := by
        have := hcell 0 (by omega)
        rw [← hi9]
        exact this
      have y1 : wr.cell? ⟨gt, m * 2 + 1, none⟩ = some (.string dt) := by
        have := hcell 1 (by omega)
        rw [← hdt]
        exact this
      rw [hi9, hdt, Int.toNat_natCast] at RK
      unfold maxLen at hmt
      have lgt := hgt
      clear hcell hpin hi9 hdt
      generalize hkb : kb keep ((m % 64 : Nat) : Int) = r at *
      have hkx : (bits .and .u64 (keep / 2 ^ ((m : Int) % 64).toNat) 1 == 1) = r := by
        rw [hm64]
        exact hkb
      have RK := hidE (RK.out r rfl)
      have et : ((m : Int) % 64).toNat = m % 64 := by omega
      have hky : (bits .and .u64 (keep / 2 ^ (m % 64)) 1 == 1) = r := by
        rw [← et]
        exact hkx
      clear hkb hm64 et
      cases r with
      | true =>
        have kll := rk_len keep kl tl m
        have hsh : kv = .slice (some ⟨gk, 0, none⟩) (rk keep kl tl m).length ck := by rw [kll]; exact HKV.out
        obtain ⟨kl2, hkl2⟩ : ∃ kl2, rk keep kl tl m = kl2 := ⟨_, rfl⟩
        rw [hkl2] at HR RK kll hsh
        have c0 : wr.cell? ⟨gr, 0, none⟩ = some (.slice (some ⟨gk, 0, none⟩) kl2.length ck) := by rw [← hsh]; exact HR.out.bd.c 0 (by simp)
        have hrow : wr.ownsRow B 9 1 (.slice (some ⟨gk, 0, none⟩) kl2.length ck) kl2.length (kl2.map Value.string) := by rw [← hsh]; exact HR.out.kr
        have hik2 : i < kl2.length := by omega
        have c5 : wr.cell? ⟨gk, i, none⟩ = some (.string kl2[i]) := by
          have := World.ownsRow.cellAt hrow i (by omega)
          rw [this, List.getElem?_map, List.getElem?_eq_getElem hik2]
          rfl
        have f5 := owns_thaw hrow i
        have hck2 : kl2.length ≤ ck := by omega
        have dd : Below wr.heap.size wr ({ wr with drawn := wr.drawn + 1 } : World) := (Below.refl _ _).drew
        have lgk : gk < wr.heap.size := (own_at hrow gk rfl).2
        have HRd := hidE (refD_below HR.out dd)
        have KD := hidE (keptB_trans HK.out (keptB_of_below dd))
        have C5D : Hid (∃ u, ({ wr with drawn := wr.drawn + 1 } : World).cell? ⟨gk, i, none⟩ = some u) := ⟨_, (dd.cell (p := ⟨gk, i, none⟩) lgk).trans c5⟩
        have HROW := hidE (own_keep hrow dd (Nat.le_refl _))
        have HSH := hidE hsh
        have KLL := hidE kll
        clear hrow HR HK hsh kll hkl2 c5 f5
        go_wp2_with fail
        refine wp_region_last (fun w' => Below wr.heap.size wr w') 21 (by kernel_rfl) ?_
        have hS := dd
        generalize ({ wr with drawn := wr.drawn + 1 } : World) = wd at *
        obtain ⟨u5, c5⟩ := C5D.out
        have f5 := owns_thaw HROW.out i
        have NR := owns_setW HROW.out i (.string dt)
        have eN : (kl2.map Value.string).set i (.string dt) = (kl2.set i dt).map Value.string := by rw [List.map_set]
        rw [eN] at NR
        have ks : KeptB wd (wd.setCell ⟨gk, i, none⟩ (.string dt)) (fun k => k = gk) := keptB_set (keptB_of_below (bad := fun k => k = gk) (Below.refl wd.heap.size wd)) rfl i _
        have kvo : ∀ k, kv.ownBlock = some k ↔ k = gk := fun k => by
          rw [HSH.out]
          exact ⟨fun e => (Option.some.inj e).symm, fun e => by rw [e]; rfl⟩
        have D6 : Hid (RefD (wd.setCell ⟨gk, i, none⟩ (.string dt)) B gr (rk keep kl tl (m + 1)) nl tl fuse down kv nv (.slice (some ⟨gt, 0, none⟩) tl.length ct)) := by
          show RefD _ _ _ _ _ _ _ _ _ _ _
          rw [RK.out]
          simp only [if_true]
          exact ⟨blk_kept HRd.out.bd ks (fun e => (HRd.out.s1 gk ((kvo gk).2 rfl)).2.2 e.symm), by rw [List.length_set, HSH.out]; simpa using NR, own_kept HRd.out.nr ks (fun k hk e => (HRd.out.s1 gk ((kvo gk).2 rfl)).1 (by rw [hk, e])), own_kept HRd.out.tr ks (fun k hk e => (HRd.out.s1 gk ((kvo gk).2 rfl)).2.1 (by rw [hk, e])), HRd.out.s1, HRd.out.s2, HRd.out.s3, HRd.out.b1⟩
        have K6 := hidE (keptB_trans KD.out (keptB_mono ks (fun k e => (kvo k).2 e)))
        clear NR eN ks kvo HRd KD C5D HROW
        refine last_take (i := 0) (v := .pointer (some ⟨gr, 0, none⟩)) (L := #[true, false, false, false, false, false, false, false, false, false, false, false, false, false, false, false, false, false, false, false, false, false]) [1, 2, 3, 20, 21] rfl (by kernel_rfl) (by kernel_rfl) (by kernel_rfl) (by kernel_rfl) (by kernel_rfl) (fun c a w h => h) (Or.inl ⟨by kernel_rfl, fun wq hq => by go_simp⟩) hS (by kernel_rfl) ?_
        refine last_take (i := 1) (v := .pointer (some ⟨gr, 0, none⟩)) (L := #[true, true, false, false, false, false, false, false, false, false, false, false, false, false, false, false, false, false, false, false, false, false]) [2, 3, 20, 21] rfl (by kernel_rfl) (by kernel_rfl) (by kernel_rfl) (by kernel_rfl) (by kernel_rfl) (fun c a w h => h) (Or.inl ⟨by kernel_rfl, fun wq hq => by go_simp⟩) hS (by kernel_rfl) ?_
        refine last_take (i := 2) (v := .pointer (some ⟨gr, 0, none⟩)) (L := #[true, true, true, false, false, false, false, false, false, false, false, false, false, false, false, false, false, false, false, false, false, false]) [3, 20, 21] rfl (by kernel_rfl) (by kernel_rfl) (by kernel_rfl) (by kernel_rfl) (by kernel_rfl) (fun c a w h => h) (Or.inl ⟨by kernel_rfl, fun wq hq => by go_simp⟩) hS (by kernel_rfl) ?_
        refine last_take (i := 3) (v := .slice (some ⟨gk, 0, none⟩) kl2.length ck) (L := #[true, true, true, true, false, false, false, false, false, false, false, false, false, false, false, false, false, false, false, false, false, false]) [20, 21] rfl (by kernel_rfl) (by kernel_rfl) (by kernel_rfl) (by kernel_rfl) (by kernel_rfl) (fun c a w h => h) (Or.inl ⟨by kernel_rfl, fun wq hq => by have q := hq.cell (p := ⟨gr, 0, none⟩) lgr; rw [c0] at q; go_simp⟩) hS (by kernel_rfl) ?_
        refine last_take (i := 4) (v := .pointer (some ⟨gr, 0, none⟩)) (L := #[true, true, true, true, true, false, false, false, false, false, false, false, false, false, false, false, false, false, false, false, false, false]) [5, 6, 7, 9, 10, 11, 20, 21] rfl (by kernel_rfl) (by kernel_rfl) (by kernel_rfl) (by kernel_rfl) (by kernel_rfl) (fun c a w h => h) (Or.inl ⟨by kernel_rfl, fun wq hq => by go_simp⟩) hS (by kernel_rfl) ?_
        refine last_take (i := 5) (v := .pointer (some ⟨gr, 0, none⟩)) (L := #[true, true, true, true, true, true, false, false, false, false, false, false, false, false, false, false, false, false, false, false, false, false]) [6, 7, 9, 10, 11, 20, 21] rfl (by kernel_rfl) (by kernel_rfl) (by kernel_rfl) (by kernel_rfl) (by kernel_rfl) (fun c a w h => h) (Or.inl ⟨by kernel_rfl, fun wq hq => by go_simp⟩) hS (by kernel_rfl) ?_
        refine last_take (i := 6) (v := .pointer (some ⟨gr, 2, none⟩)) (L := #[true, true, true, true, true, true, true, false, false, false, false, false, false, false, false, false, false, false, false, false, false, false]) [7, 9, 10, 11, 20, 21] rfl (by kernel_rfl) (by kernel_rfl) (by kernel_rfl) (by kernel_rfl) (by kernel_rfl) (fun c a w h => h) (Or.inl ⟨by kernel_rfl, fun wq hq => by go_simp⟩) hS (by kernel_rfl) ?_
        refine last_take (i := 7) (v := .slice (some ⟨gt, 0, none⟩) tl.length ct) (L := #[true, true, true, true, true, true, true, true, false, false, false, false, false, false, false, false, false, false, false, false, false, false]) [9, 10, 11, 20, 21] rfl (by kernel_rfl) (by kernel_rfl) (by kernel_rfl) (by kernel_rfl) (by kernel_rfl) (fun c a w h => h) (Or.inl ⟨by kernel_rfl, fun wq hq => by have q := hq.cell (p := ⟨gr, 2, none⟩) lgr; rw [c2] at q; go_simp⟩) hS (by kernel_rfl) ?_
        refine last_take (i := 8) (v := .int .i64 (m : Int)) (L := #[true, true, true, true, true, true, true, true, true, false, false, false, false, false, false, false, false, false, false, false, false, false]) [9, 10, 11, 20, 21] rfl (by kernel_rfl) (by kernel_rfl) (by kernel_rfl) (by kernel_rfl) (by kernel_rfl) (fun c a w h => h) (Or.inl ⟨by kernel_rfl, fun wq hq => by go_simp⟩) hS (by kernel_rfl) ?_
        refine last_take (i := 9) (v := .pointer (some ⟨gt, m * 2, none⟩)) (L := #[true, true, true, true, true, true, true, true, true, true, false, false, false, false, false, false, false, false, false, false, false, false]) [10, 11, 20, 21] rfl (by kernel_rfl) (by kernel_rfl) (by kernel_rfl) (by kernel_rfl) (by kernel_rfl) (fun c a w h => h) (Or.inl ⟨by kernel_rfl, fun wq hq => by go_simp⟩) hS (by kernel_rfl) ?_
        refine last_take (i := 10) (v := .pointer (some ⟨gt, m * 2, none⟩)) (L := #[true, true, true, true, true, true, true, true, true, true, true, false, false, false, false, false, false, false, false, false, false, false]) [11, 20, 21] rfl (by kernel_rfl) (by kernel_rfl) (by kernel_rfl) (by kernel_rfl) (by kernel_rfl) (fun c a w h => h) (Or.inl ⟨by kernel_rfl, fun wq hq => by go_simp⟩) hS (by kernel_rfl) ?_
        refine last_take (i := 11) (v := .int .i64 (i : Int)) (L := #[true, true, true, true, true, true, true, true, true, true, true, true, false, false, false, false, false, false, false, false, false, false]) [20, 21] rfl (by kernel_rfl) (by kernel_rfl) (by kernel_rfl) (by kernel_rfl) (by kernel_rfl) (fun c a w h => h) (Or.inl ⟨by kernel_rfl, fun wq hq => by have q := hq.cell (p := ⟨gt, m * 2, none⟩) lgt; rw [y0] at q; go_simp⟩) hS (by kernel_rfl) ?_
        refine last_take (i := 12) (v := .pointer (some ⟨gr, 0, none⟩)) (L := #[true, true, true, true, true, true, true, true, true, true, true, true, true, false, false, false, false, false, false, false, false, false]) [13, 14, 15, 17, 18, 19, 20, 21] rfl (by kernel_rfl) (by kernel_rfl) (by kernel_rfl) (by kernel_rfl) (by kernel_rfl) (fun c a w h => h) (Or.inl ⟨by kernel_rfl, fun wq hq => by go_simp⟩) hS (by kernel_rfl) ?_
        refine last_take (i := 13) (v := .pointer (some ⟨gr, 0, none⟩)) (L := #[true, true, true, true, true, true, true, true, true, true, true, true, true, true, false, false, false, false, false, false, false, false]) [14, 15, 17, 18, 19, 20, 21] rfl (by kernel_rfl) (by kernel_rfl) (by kernel_rfl) (by kernel_rfl) (by kernel_rfl) (fun c a w h => h) (Or.inl ⟨by kernel_rfl, fun wq hq => by go_simp⟩) hS (by kernel_rfl) ?_
        refine last_take (i := 14) (v := .pointer (some ⟨gr, 2, none⟩)) (L := #[true, true, true, true, true, true, true, true, true, true, true, true, true, true, true, false, false, false, false, false, false, false]) [15, 17, 18, 19, 20, 21] rfl (by kernel_rfl) (by kernel_rfl) (by kernel_rfl) (by kernel_rfl) (by kernel_rfl) (fun c a w h => h) (Or.inl ⟨by kernel_rfl, fun wq hq => by go_simp⟩) hS (by kernel_rfl) ?_
        refine last_take (i := 15) (v := .slice (some ⟨gt, 0, none⟩) tl.length ct) (L := #[true, true, true, true, true, true, true, true, true, true, true, true, true, true, true, true, false, false, false, false, false, false]) [17, 18, 19, 20, 21] rfl (by kernel_rfl) (by kernel_rfl) (by kernel_rfl) (by kernel_rfl) (by kernel_rfl) (fun c a w h => h) (Or.inl ⟨by kernel_rfl, fun wq hq => by have q := hq.cell (p := ⟨gr, 2, none⟩) lgr; rw [c2] at q; go_simp⟩) hS (by kernel_rfl) ?_
        refine last_take (i := 16) (v := .int .i64 (m : Int)) (L := #[true, true, true, true, true, true, true, true, true, true, true, true, true, true, true, true, true, false, false, false, false, false]) [17, 18, 19, 20, 21] rfl (by kernel_rfl) (by kernel_rfl) (by kernel_rfl) (by kernel_rfl) (by kernel_rfl) (fun c a w h => h) (Or.inl ⟨by kernel_rfl, fun wq hq => by go_simp⟩) hS (by kernel_rfl) ?_
        refine last_take (i := 17) (v := .pointer (some ⟨gt, m * 2, none⟩)) (L := #[true, true, true, true, true, true, true, true, true, true, true, true, true, true, true, true, true, true, false, false, false, false]) [18, 19, 20, 21] rfl (by kernel_rfl) (by kernel_rfl) (by kernel_rfl) (by kernel_rfl) (by kernel_rfl) (fun c a w h => h) (Or.inl ⟨by kernel_rfl, fun wq hq => by go_simp⟩) hS (by kernel_rfl) ?_
        refine last_take (i := 18) (v := .pointer (some ⟨gt, m * 2 + 1, none⟩)) (L := #[true, true, true, true, true, true, true, true, true, true, true, true, true, true, true, true, true, true, true, false, false, false]) [19, 20, 21] rfl (by kernel_rfl) (by kernel_rfl) (by kernel_rfl) (by kernel_rfl) (by kernel_rfl) (fun c a w h => h) (Or.inl ⟨by kernel_rfl, fun wq hq => by go_simp⟩) hS (by kernel_rfl) ?_
        refine last_take (i := 19) (v := .string dt) (L := #[true, true, true, true, true, true, true, true, true, true, true, true, true, true, true, true, true, true, true, true, false, false]) [20, 21] rfl (by kernel_rfl) (by kernel_rfl) (by kernel_rfl) (by kernel_rfl) (by kernel_rfl) (fun c a w h => h) (Or.inl ⟨by kernel_rfl, fun wq hq => by have q := hq.cell (p := ⟨gt, m * 2 + 1, none⟩) lgt; rw [y1] at q; go_simp⟩) hS (by kernel_rfl) ?_
        refine last_take (i := 20) (v := .pointer (some ⟨gk, i, none⟩)) (L := #[true, true, true, true, true, true, true, true, true, true, true, true, true, true, true, true, true, true, true, true, true, false]) [21] rfl (by kernel_rfl) (by kernel_rfl) (by kernel_rfl) (by kernel_rfl) (by kernel_rfl) (fun c a w h => h) (Or.inl ⟨by kernel_rfl, fun wq hq => by go_simp⟩) hS (by kernel_rfl) ?_
        refine last_go (i := 21) (L := #[true, true, true, true, true, true, true, true, true, true, true, true, true, true, true, true, true, true, true, true, true, true]) (by kernel_rfl) rfl (by kernel_rfl) (by kernel_rfl) ?_
        intro K' hK
        go_simp
        refine hK _ _ ⟨fun h => absurd rfl h, ?_⟩
        clear hK
        refine last_done (by kernel_rfl) ?_ _
        clear c0 c2 c5 f5 y0 y1
        go_wp2_with fail
        go_roundw
        case rel => exact ⟨m + 1, by omega, by go_num, D6, K6⟩
        case measure => simp [intOf]; omega
      | false =>
        have HR2 : Hid (RefD wr B gr (rk keep kl tl (m + 1)) nl tl fuse down kv nv (.slice (some ⟨gt, 0, none⟩) tl.length ct)) := by
          show RefD _ _ _ _ _ _ _ _ _ _ _
          rw [RK.out]
          exact HR.out
        clear RK HR
        go_wp2_with fail
        go_roundw
        case rel => exact ⟨m + 1, by omega, by go_num, HR2, HK⟩
        case measure => simp [intOf]; omega
    · have hme : m = tl.length := by omega
      subst hme
      have kll := rk_len keep kl tl tl.length
      have hsh : kv = .slice (some ⟨gk, 0, none⟩) (rk keep kl tl tl.length).length ck := by rw [kll]; exact HKV.out
      have hK0 : (rk keep kl tl tl.length).length ≤ 1000 := by omega
      have HRK : Hid (rk keep kl tl tl.length = rk keep kl tl tl.length) := rfl
      generalize hKK : rk keep kl tl tl.length = K at *
      have HKK := hidE hKK
      have c0 : wr.cell? ⟨gr, 0, none⟩ = some (.slice (some ⟨gk, 0, none⟩) K.length ck) := by rw [← hsh]; exact HR.out.bd.c 0 (by simp)
      have NR : Hid (wr.ownsRow B 9 1 (.slice (some ⟨gk, 0, none⟩) K.length ck) K.length (K.map Value.string)) := by rw [← hsh]; exact HR.out.kr
      have HBZ : Hid (B ≤ wr.heap.size) := by have := HR.out.b1; show _ ≤ _; omega
      have CN : Hid (∀ j u, (K.map Value.string)[j]? = some u → wr.cell? ((⟨gk, 0, none⟩ : Addr).add j) = some u) := fun j u hu => by
        have hj : j < K.length := by simpa using (List.getElem?_eq_some_iff.1 hu).1
        rw [add_at, Nat.zero_add, World.ownsRow.cellAt NR.out j (by omega)]
        exact hu
      have HSH := hidE hsh
      clear kll hsh hKK HRK
      go_wp2_with (at_builtin; go_must (refine wpList_append_own_at _ rfl (.const (.slice none 0 0)) (.tmp 46) 46 rfl B 9 i0 (.string ⟨#[]⟩) 1 16 Try.underlying46 hi hz0 hz1 hz2 rfl (by decide) _ 0 [] rfl (World.ownsRow_nil _ _ _ _) ⟨gk, 0, none⟩ K.length ck (K.map Value.string) rfl (by simp) CN.out (one_strs K) (by show _ ≤ 2 ^ 63 - 1; omega) (by omega) HBZ.out ?_))
      intro v' w9 ho hg9 _ hob
      have hg92 : wr.grownBy w9 none := hg9
      have hb9 : Below wr.heap.size wr w9 := (Below.refl wr.heap.size wr).grown hg92 (Nat.le_refl _) (fun k hk => by cases hk)
      have hnw : ∀ k, v'.ownBlock = some k → wr.heap.size ≤ k := fun k hk => by
        rcases hob with e | e
        · rw [e] at hk
          simp [Value.ownBlock] at hk
        · rw [e] at hk
          have := Option.some.inj hk
          omega
      have ho2 : w9.ownsRow B 9 1 v' K.length (K.map Value.string) := by simpa using ho
      obtain ⟨a', c', rfl⟩ := owns_shapeE ho2
      have D9 := refD_below HR.out hb9
      have e1 : w9.cell? ⟨gr, 1, none⟩ = some nv := D9.bd.c 1 (by simp)
      have f1 := D9.bd.fz 1
      have B10 := blk_set D9.bd 1 (.slice a' K.length c') (by simp)
      have e2 : (w9.setCell ⟨gr, 1, none⟩ (.slice a' K.length c')).cell? ⟨gr, 2, none⟩ = some (.slice at3 tl.length ct) := B10.c 2 (by simp)
      have f2 := B10.fz 2
      have B11 := blk_set B10 2 (.slice none 0 0) (by simp)
      have e4 : ((w9.setCell ⟨gr, 1, none⟩ (.slice a' K.length c')).setCell ⟨gr, 2, none⟩ (.slice none 0 0)).cell? ⟨gr, 4, none⟩ = some (.bool down) := B11.c 4 (by simp)
      have f4 := B11.fz 4
      have B12 := blk_set B11 4 (.bool false) (by simp)
      have e3 : (((w9.setCell ⟨gr, 1, none⟩ (.slice a' K.length c')).setCell ⟨gr, 2, none⟩ (.slice none 0 0)).setCell ⟨gr, 4, none⟩ (.bool false)).cell? ⟨gr, 3, none⟩ = some (.int .i64 fuse) := B12.c 3 (by simp)
      have f3 := B12.fz 3
      have B13 := blk_set B12 3 (.int .i64 (-1)) (by simp)
      have ks : KeptB w9 ((((w9.setCell ⟨gr, 1, none⟩ (.slice a' K.length c')).setCell ⟨gr, 2, none⟩ (.slice none 0 0)).setCell ⟨gr, 4, none⟩ (.bool false)).setCell ⟨gr, 3, none⟩ (.int .i64 (-1))) (fun k => k = gr) := keptB_set (keptB_set (keptB_set (keptB_set (keptB_of_below (bad := fun k => k = gr) (Below.refl w9.heap.size w9)) rfl 1 _) rfl 2 _) rfl 4 _) rfl 3 _
      have klt := own_at HR.out.kr
      have D13 : Hid (RefD ((((w9.setCell ⟨gr, 1, none⟩ (.slice a' K.length c')).setCell ⟨gr, 2, none⟩ (.slice none 0 0)).setCell ⟨gr, 4, none⟩ (.bool false)).setCell ⟨gr, 3, none⟩ (.int .i64 (-1))) B gr K K [] (-1) false kv (.slice a' K.length c') (.slice none 0 0)) :=
        ⟨by simpa using B13, own_kept D9.kr ks (fun k hk => (D9.s1 k hk).2.2), own_kept ho2 ks (fun k hk => by have := hnw k hk; omega), World.ownsRow_nil _ _ _ _, fun k hk => ⟨fun e => by
          have h1 := hnw k e
          have h2 := (klt k hk).2
          omega, by simp [Value.ownBlock], (D9.s1 k hk).2.2⟩, fun k hk => ⟨by simp [Value.ownBlock], by have := hnw k hk; omega⟩, fun k hk => by simp [Value.ownBlock] at hk, D9.b1⟩
      have K13 := hidE (keptB_trans (keptB_mono (bad' := fun k => k = gr ∨ kv.ownBlock = some k) HK.out (fun k h => .inr h)) (keptB_trans (keptB_of_below hb9) (keptB_mono ks (fun k h => .inl h))))
      have NWH : Hid (∀ k, (Value.slice a' K.length c').ownBlock = some k → w.heap.size ≤ k) := fun k hk => by
        have h1 := hnw k hk
        have h2 := HK.out.b0.size
        omega
      clear ho hg9 hob hg92 hb9 hnw ho2 D9 B10 B11 B12 B13 ks klt NR CN c0 c2
      go_wp2_with fail
      exact ⟨rfl, _, by simp [results], rfl, K13.out, _, NWH.out, by rw [HKK.out]; exact D13.out⟩
end Go.Proofs.Ytjiopjdbifcfkac

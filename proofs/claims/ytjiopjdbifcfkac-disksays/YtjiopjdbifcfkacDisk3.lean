/- The contract of a sector's settle, over this seat's translation. Conditions: as named. -/
import Derived.Test.YtjiopjdbifcfkacDisk2
import Derived.Deep.WholeRow
import Derived.Deep.DeepCutAuto
namespace Go.Proofs.Ytjiopjdbifcfkac
open Go.ChangeShapes Go.WideShapes Go.ChangeAt Go.RowKit
set_option linter.unusedVariables false
set_option linter.unusedSimpArgs false

theorem rangeAt_blk {w : World} {g : Nat} {C pre cs post : List Value} (h : BlkAt w g C) (hC : C = pre ++ (cs ++ post)) : w.rangeAt g pre.length cs := fun j v hv => by
  have hj := (List.getElem?_eq_some_iff.1 hv).1
  rw [h.c (pre.length + j) (by rw [hC]; simp; omega), hC, List.getElem?_append_right (by omega), Nat.add_sub_cancel_left, List.getElem?_append_left hj]
  exact hv
theorem there_blk {w : World} {g : Nat} {C : List Value} (h : BlkAt w g C) (o n : Nat) (hn : o + n ≤ C.length) : w.there g o n := fun j hj => ⟨by rw [h.c (o + j) (by omega)]; simp; omega, h.fz _⟩
theorem zeroW : ∃ zs : Array Value, zs.size = 257 ∧ ∀ w, (zeroValue 74).run Try.prog w = .ok (.agg zs) w := by
  refine ⟨(Value.int .i64 0 :: List.replicate 256 (Value.int .u8 0)).toArray, ?_, (zero_of_info (P := Try.prog) (t := 74) (v := .agg (Value.int .i64 0 :: List.replicate 256 (Value.int .u8 0)).toArray) (n := 257) (by kernel_rfl)).1⟩
  rw [List.size_toArray, List.length_cons, List.length_replicate]
theorem kept_new_cells {a : World} {bad : Nat → Prop} {g : Nat} (hg : a.heap.size ≤ g) : ∀ (vs : List Value) (o : Nat) (b : World), KeptB a b bad → KeptB a (b.setCells g o vs) bad := fun vs o b h =>
  ⟨below_setCells (Nat.zero_le g) vs o b h.b0, fun k hk hn => (heap_setCells g k (by omega) vs o b).trans (h.block k hk hn)⟩
theorem kept_alloc {a b : World} {bad : Nat → Prop} (h : KeptB a b bad) (o : Obj) : KeptB a (b.alloc o) bad := keptB_trans h (keptB_of_below (below_alloc b o))
/-- a new variable of many cells, stored as a whole -/
theorem blk_new_cells (w : World) (zs : Array Value) (e : TypeId) (vs : List Value) (h : vs.length = zs.size) : BlkAt ((w.alloc (.cells zs e)).setCells w.heap.size 0 vs) w.heap.size vs := by
  have h0 := blk_alloc w zs.toList e
  have h1 := blk_setCells h0 0 vs (by simp [h])
  have e1 : zs.toList.take 0 ++ (vs ++ zs.toList.drop (0 + vs.length)) = vs := by
    rw [List.take_zero, List.nil_append, Nat.zero_add, List.drop_of_length_le (by simp [h]), List.append_nil]
  rw [e1] at h1
  simpa using h1
/-- is the bit set? -/
def kb (keep b : Int) : Bool := (bits .and .u64 (keep / 2 ^ b.toNat) 1 == 1)
def settleK (keep : Int) (kept : Blk) (ws : List Wr) : Blk := ws.foldl (fun acc p => if kb keep p.1 then p.2 else acc) kept
theorem settleK_next (keep : Int) (kept : Blk) (ws : List Wr) (m : Nat) (h : m < ws.length) : settleK keep kept (ws.take (m + 1)) = if kb keep ws[m].1 then ws[m].2 else settleK keep kept (ws.take m) := by
  unfold settleK
  rw [List.take_add_one, List.getElem?_eq_getElem h, List.foldl_append]
  rfl
/-- a sector in its block -/
theorem sec_at {w : World} {gs : Nat} {pre post : List Value} {s : Sec} (hb : BlkAt w gs (pre ++ (cellsS s ++ post))) (j : Nat) (hj : j < 257) : w.cell? ⟨gs, pre.length + j, none⟩ = (cellsS s)[j]? := by
  have hsl := cellsS_len s
  rw [hb.c (pre.length + j) (by simp [hsl]; omega), List.getElem?_append_right (by omega), Nat.add_sub_cancel_left, List.getElem?_append_left (by omega)]
theorem sec_kept {w : World} {gs : Nat} {pre post : List Value} {k d : Blk} {ws ws' : List Wr} {wv : Value} (hb : BlkAt w gs (pre ++ (cellsS ⟨k, ws, wv⟩ ++ post))) : BlkAt (w.setCells gs pre.length (bc d.1)) gs (pre ++ (cellsS ⟨d, ws', wv⟩ ++ post)) := by
  have hk : (bc k.1).length = 256 := by rw [bc_len, k.2]
  have hd : (bc d.1).length = 256 := by rw [bc_len, d.2]
  have h := blk_setCells hb pre.length (bc d.1) (by simp [cellsS, hk, hd])
  have e : (pre ++ (cellsS ⟨k, ws, wv⟩ ++ post)).take pre.length ++ (bc d.1 ++ (pre ++ (cellsS ⟨k, ws, wv⟩ ++ post)).drop (pre.length + (bc d.1).length)) = pre ++ (cellsS ⟨d, ws', wv⟩ ++ post) := by
    rw [List.take_left, List.drop_append, hd]
    have e1 : (cellsS ⟨k, ws, wv⟩ ++ post).drop 256 = wv :: post := by
      unfold cellsS
      simp only
      rw [List.append_assoc, List.drop_left' hk]
      rfl
    rw [List.drop_of_length_le (l := pre) (by omega), List.nil_append, Nat.add_sub_cancel_left, e1]
    simp [cellsS]
  rw [e] at h
  exact h
theorem sec_wv {w : World} {gs : Nat} {pre post : List Value} {k : Blk} {ws ws' : List Wr} {wv : Value} (hb : BlkAt w gs (pre ++ (cellsS ⟨k, ws, wv⟩ ++ post))) (v : Value) : BlkAt (w.setCell ⟨gs, pre.length + 256, none⟩ v) gs (pre ++ (cellsS ⟨k, ws', v⟩ ++ post)) := by
  have hk : (bc k.1).length = 256 := by rw [bc_len, k.2]
  have h := blk_set hb (pre.length + 256) v (by simp [cellsS, hk])
  have e : (pre ++ (cellsS ⟨k, ws, wv⟩ ++ post)).set (pre.length + 256) v = pre ++ (cellsS ⟨k, ws', v⟩ ++ post) := by
    unfold cellsS
    simp only
    rw [List.set_append_right _ _ (by omega), Nat.add_sub_cancel_left, List.append_assoc, List.append_assoc, List.set_append_right _ _ (by omega), hk]
    rfl
  rw [e] at h
  exact h

set_option maxRecDepth 100000 in
set_option maxHeartbeats 1000000 in
theorem scsettle_any (keep : Int) (s : Sec) (gs : Nat) (pre post : List Value) (w : World) (hb : BlkAt w gs (pre ++ (cellsS s ++ post))) (hrow : RowG w s.wv 257 s.ws.length (rowW s.ws)) (hl : s.ws.length ≤ 1000) (hbit : ∀ p ∈ s.ws, 0 ≤ p.1 ∧ p.1 ≤ 63) (hk : 0 ≤ keep ∧ keep ≤ 18446744073709551615)
    (hne : ∀ g off c, s.wv = .slice (some ⟨g, off, none⟩) s.ws.length c → g ≠ gs) :
    Calls Try.prog 30 #[.pointer (some ⟨gs, pre.length, none⟩), .int .u64 keep] w fun e w' => e = .returned (.tuple #[]) ∧ KeptB w w' (fun k => k = gs) ∧ BlkAt w' gs (pre ++ (cellsS ⟨settleK keep s.kept s.ws, [], .slice none 0 0⟩ ++ post)) := by
  obtain ⟨kept, ws, wv⟩ := s
  obtain ⟨ao, cap, hwv⟩ := rowG_shape hrow
  simp only at hwv hrow hl hne hbit ⊢
  subst hwv
  obtain ⟨zs, hz1, hz2⟩ := zeroW
  have cv : w.cell? ⟨gs, pre.length + 256, none⟩ = some (.slice ao ws.length cap) := by rw [sec_at hb 256 (by omega), cellsS_wv]
  have hgl := hb.lt
  have HB := hidE hb
  have HROW := hidE hrow
  have HBIT := hidE hbit
  have HNE := hidE hne
  clear hb hrow hbit hne
  go_enter Try.func30, Try.ntmps30
  go_wp2_with fail
  go_loopw [11] (fun i wr => ∃ m : Nat, m ≤ ws.length ∧ i = .int .i64 m ∧ Hid (KeptB w wr (fun k => k = gs)) ∧ Hid (BlkAt wr gs (pre ++ (cellsS ⟨settleK keep kept (ws.take m), ws, .slice ao ws.length cap⟩ ++ post)))) (fun i _ => ws.length - (intOf i).toNat)
  case atStart => exact ⟨0, Nat.zero_le _, rfl, keptB_of_below (Below.refl _ _), HB⟩
  case round =>
    obtain ⟨m, hm, rfl, HK, HC⟩ := hrel
    by_cases hlt : m < ws.length
    · obtain ⟨g, off, rfl, hcell, q1, q2, lg⟩ := rowOf_val cellsW_len HROW.out m hlt
      have hgs : g ≠ gs := HNE.out g off cap rfl
      have RG : Hid (wr.rangeAt g (off + m * 257) (cellsW ws[m])) := fun j v hv => by
        rw [kept_cell HK.out _ lg hgs, Nat.add_assoc, hcell j (by have := (List.getElem?_eq_some_iff.1 hv).1; rw [cellsW_len] at this; exact this)]
        exact hv
      have HI9 : Hid ((Try.prog.info? 74).map (·.size) = some (cellsW ws[m]).length) := by
        show _ = _
        rw [cellsW_len]; exact sizeW
      have HI8 : Hid ((Try.prog.info? 74).map (·.size) = some (cellsW ws[m]).toArray.size) := by
        show _ = _
        simp [cellsW_len, sizeW]
      have TH : Hid ((wr.alloc (.cells zs 74)).there wr.heap.size 0 (cellsW ws[m]).toArray.size) := fun j hj => by
        simp [cellsW_len] at hj
        exact ⟨by simp; omega, by go_simp⟩
      have OC := hidE (all_oneCell_toArray (cellsW_one ws[m]))
      have SN := hidE (settleK_next keep kept ws m hlt)
      unfold maxLen at q2
      clear hcell
      go_upto_region 3 with (first | (refine wpList_load_mid rfl 74 _ rfl g (off + m * 257) rfl (cellsW ws[m]) _ RG.out Try.underlying74 rfl HI9.out ?_) | (refine wpList_store_mid rfl 74 _ _ rfl wr.heap.size 0 (cellsW ws[m]).toArray rfl rfl TH.out HI8.out OC.out ?_))
      have BN := hidE (blk_new_cells wr zs 74 (cellsW ws[m]) (by rw [cellsW_len, hz1]))
      have KN := hidE (kept_new_cells (g := wr.heap.size) HK.out.b0.size (cellsW ws[m]) 0 _ (kept_alloc HK.out (.cells zs 74)))
      have hgw : wr.heap.size ≠ gs := by have := HC.out.lt; omega
      have BC := hidE (blk_far_cells (blk_below HC.out (below_alloc wr (.cells zs 74)) HC.out.lt) hgw 0 (cellsW ws[m]))
      obtain ⟨b1, b2⟩ := HBIT.out ws[m] (List.getElem_mem hlt)
      obtain ⟨gn, hgn⟩ : ∃ gn, wr.heap.size = gn := ⟨_, rfl⟩
      rw [hgn] at BN KN BC ⊢
      generalize (wr.alloc (.cells zs 74)).setCells gn 0 (cellsW ws[m]) = wn at *
      generalize ws[m] = p at *
      obtain ⟨b, d⟩ := p
      simp only at b1 b2
      have SN : Hid (settleK keep kept (ws.take (m + 1)) = if kb keep b then d else settleK keep kept (ws.take m)) := SN.out
      have c0 : wn.cell? ⟨gn, 0, none⟩ = some (.int .i64 b) := BN.out.c 0 (by rw [cellsW_len]; omega)
      have db : decide (b < 0) = false := by simp; omega
      clear TH OC HI8 HI9 RG HK HC hgw hgn
      by_cases hkb : kb keep b = true
      · have hkx : (bits .and .u64 (keep / 2 ^ b.toNat) 1 == 1) = true := hkb
        have RB : Hid (wn.rangeAt gn 1 (bc d.1)) := fun j v hv => by
          rw [BN.out.c (1 + j) (by have := (List.getElem?_eq_some_iff.1 hv).1; rw [bc_len, d.2] at this; rw [cellsW_len]; omega), Nat.add_comm]
          exact hv
        have HI7 : Hid ((Try.prog.info? 62).map (·.size) = some (bc d.1).length) := by
          show _ = _
          rw [bc_len, d.2]; exact sizeB
        have HI6 : Hid ((Try.prog.info? 62).map (·.size) = some (bc d.1).toArray.size) := by
          show _ = _
          rw [List.size_toArray, bc_len, d.2]; exact sizeB
        have TH2 : Hid (wn.there gs pre.length (bc d.1).toArray.size) := there_blk BC.out _ _ (by simp [bc_len, d.2, cellsS_len]; omega)
        have OC2 := hidE (all_oneCell_toArray (bc_one d.1))
        have KN2 := hidE (kept_setCells (b := wn) (bad := fun k => k = gs) (g := gs) rfl (bc d.1) pre.length wn KN.out)
        have SN2 : Hid (settleK keep kept (ws.take (m + 1)) = d) := by
          show _ = _
          rw [SN.out, if_pos hkb]
        have BC2 : Hid (BlkAt (wn.setCells gs pre.length (bc d.1)) gs (pre ++ (cellsS ⟨settleK keep kept (ws.take (m + 1)), ws, .slice (some ⟨g, off, none⟩) ws.length cap⟩ ++ post))) := by
          show BlkAt _ _ _
          rw [SN2.out]
          exact sec_kept BC.out
        clear hkb BC KN SN SN2 HBIT BN
        go_wp2_with (first | (refine wpList_load_mid rfl 62 _ rfl gn 1 rfl (bc d.1) _ RB.out Try.underlying62 rfl HI7.out ?_) | (refine wpList_store_mid rfl 62 _ _ rfl gs pre.length (bc d.1).toArray rfl rfl TH2.out HI6.out OC2.out ?_))
        go_roundw
        case rel => exact ⟨m + 1, by omega, by go_num, KN2, BC2⟩
        case measure => simp [intOf]; omega
      · have hkx : (bits .and .u64 (keep / 2 ^ b.toNat) 1 == 1) = false := by simpa [kb] using hkb
        have SN2 : Hid (settleK keep kept (ws.take (m + 1)) = settleK keep kept (ws.take m)) := by
          show _ = _
          rw [SN.out, if_neg hkb]
        rw [← SN2.out] at BC
        clear hkb SN SN2 HBIT BN
        go_wp2_with fail
        go_roundw
        case rel => exact ⟨m + 1, by omega, by go_num, KN, BC⟩
        case measure => simp [intOf]; omega
    · have hme : m = ws.length := by omega
      subst hme
      rw [List.take_length] at HC
      have cz : wr.cell? ⟨gs, pre.length + 256, none⟩ = some (.slice ao ws.length cap) := by rw [sec_at HC.out 256 (by omega), cellsS_wv]
      have fz := HC.out.fz (pre.length + 256)
      have BC := hidE (sec_wv (ws' := []) HC.out (.slice none 0 0))
      have KN := hidE (keptB_set HK.out rfl (pre.length + 256) (.slice none 0 0))
      clear HC HK HBIT HNE HROW HB
      go_wp2_with fail
      exact ⟨rfl, _, by simp [results], rfl, KN.out, BC.out⟩
end Go.Proofs.Ytjiopjdbifcfkac

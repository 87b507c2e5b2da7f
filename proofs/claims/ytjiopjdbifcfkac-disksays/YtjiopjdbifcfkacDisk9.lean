/- The contract of slices.DeleteFunc at the closure of a sector's write, whatever is found, over this seat's translation. Conditions: as named. -/
import Derived.Test.YtjiopjdbifcfkacDisk8
namespace Go.Proofs.Ytjiopjdbifcfkac
open Go.ChangeShapes Go.WideShapes Go.ChangeAt Go.RowKit
set_option linter.unusedVariables false
set_option linter.unusedSimpArgs false

theorem zeroW_len {zs : Array Value} (hz : zs.size = 257) (n : Nat) : (Builtin.zeroCells zs n).toList.length = n * 257 := by simp [Builtin.zeroCells, hz]
theorem zeroW_one {zs : Array Value} (hz : zs.size = 257) (h1 : ∀ v ∈ zs.toList, v.oneCell' = true) (n : Nat) : ∀ u ∈ (Builtin.zeroCells zs n).toList, u.oneCell' = true := by
  intro u hu
  simp only [Builtin.zeroCells, Array.toList_map, Array.toList_range, List.mem_map] at hu
  obtain ⟨i, -, rfl⟩ := hu
  have h5 : i % zs.size < zs.size := Nat.mod_lt _ (by omega)
  rw [getElem!_pos zs (i % zs.size) h5]
  exact h1 _ (by simp)
theorem clearW (w : World) (g o n c : Nat) {zs : Array Value} (hz : zs.size = 257) (h1 : ∀ v ∈ zs.toList, v.oneCell' = true) (hzv : ∀ w, (zeroValue 74).run Try.prog w = .ok (.agg zs) w) (hn : 0 < n) (hc : ∀ j, j < n * 257 → (w.cell? ⟨g, o + j, none⟩).isSome = true) (hf : ∀ j, j < n * 257 → w.frozen? ⟨g, o + j, none⟩ = false) (ty : TypeId) :
    (Builtin.clear_ #[63] ty #[.slice (some ⟨g, o, none⟩) n c]).run Try.prog w = .ok (.tuple #[]) (w.setCells g o (Builtin.zeroCells zs n).toList) := by
  have hst := run_storeCells_cells (P := Try.prog) g o (Builtin.zeroCells zs n).toList 0 w (by rw [zeroW_len hz]; simpa using hc) (by rw [zeroW_len hz]; simpa using hf) (zeroW_one hz h1 n)
  have hzc : (Value.agg zs).cells = zs := rfl
  simp only [Nat.add_zero] at hst
  obtain ⟨m, rfl⟩ : ∃ m, n = m + 1 := ⟨n - 1, by omega⟩
  simp [Builtin.clear_, run_underlying Try.underlying63, hzv, hzc, hst]

set_option maxRecDepth 100000 in
set_option maxHeartbeats 4000000 in
theorem delete_w (ws : List Wr) (bit : Int) (gb B : Nat) (u : Value) (w : World) (hl : ws.length ≤ 1000) (ho : w.ownsRow B 74 257 u ws.length (rowW ws)) (hb : BlkAt w gb [.int .i64 bit]) (hgb : u.ownBlock ≠ some gb) :
    Calls Try.prog 28 #[u, .func (.func 29) #[] #[.pointer (some ⟨gb, 0, none⟩)]] w fun e w' => ∃ v, e = .returned v ∧ w'.ownsRow B 74 257 v (ws.filter (fun p => !(p.1 == bit))).length (rowW (ws.filter (fun p => !(p.1 == bit)))) ∧ v.ownBlock = u.ownBlock ∧ KeptB w w' (fun k => u.ownBlock = some k) := by
  obtain ⟨au, cu, rfl⟩ := owns_shapeE ho
  obtain ⟨zs, zs257, zc, hzv⟩ := zeroV
  have zone : Hid (∀ v ∈ zs.toList, v.oneCell' = true) := fun v hv => by rw [zc] at hv; exact cellsW_one _ v hv
  have IX := hidE (index_w ws bit gb cu au w hl (rowG_of_owns ho) hb)
  have HO := hidE ho
  have HBB := hidE hb
  have HGB := hidE hgb
  clear ho hb hgb zc
  go_enter Try.func28, Try.ntmps28
  go_wp2_with fail
  refine IX.out.mono ?_
  rintro e w1 (⟨i, hi, h1, h2, rfl, hb⟩ | ⟨h1, rfl, hb⟩)
  · obtain ⟨g, cg, he, gb1, gs, gc, gm⟩ := owns_head HO.out (by omega)
    cases he
    have DS := hidE (del_start (c := fun p : Wr => p.1 == bit) hi h1 h2)
    have HO1 := hidE (own_keep HO.out hb (Nat.le_refl _))
    have HK1 : Hid (KeptB w w1 (fun k => (Value.slice (some ⟨g, 0, none⟩) ws.length cu).ownBlock = some k)) := keptB_of_below hb
    unfold maxLen at gm
    have e0 : ((i : Int) == -1) = false := by simp
    clear h1 h2 hb IX HO
    go_wp2_with fail
    clear e0
    go_loopw [5, 6] (fun ci cj wr => ∃ (i j : Nat) (L : List Wr), i < j ∧ j ≤ ws.length ∧ ci = .int .i64 i ∧ cj = .int .i64 j ∧ Hid (DelR ws (fun p => p.1 == bit) i j L) ∧ Hid (wr.ownsRow B 74 257 (.slice (some ⟨g, 0, none⟩) ws.length cu) ws.length (rowW L)) ∧ Hid (KeptB w wr (fun k => (Value.slice (some ⟨g, 0, none⟩) ws.length cu).ownBlock = some k))) (fun _ cj _ => ws.length - (intOf cj).toNat)
    case atStart => exact ⟨i, i + 1, ws, by omega, by omega, rfl, by go_num, DS, HO1, HK1⟩
    case round =>
      clear DS HO1 HK1 hi
      obtain ⟨i, j, L, hij, hj, rfl, rfl, HD, HO, HK⟩ := hrel
      by_cases hlt : j < ws.length
      · have hLj : L[j]? = some ws[j] := by rw [HD.out.rs j (Nat.le_refl _), List.getElem?_eq_getElem hlt]
        have RG : Hid (wr.rangeAt g (j * 257) (cellsW ws[j])) := fun q v hv => by
          have hq : q < 257 := by have := (List.getElem?_eq_some_iff.1 hv).1; rw [cellsW_len] at this; exact this
          have h9 := HO.out.cellAt (j * 257 + q) (idx_lt hlt hq)
          rw [h9]
          unfold rowW
          rw [rowOf_at cellsW_len _ j q ws[j] hLj hq]
          exact hv
        have CP := hidE (fun w' (h : KeptB w w' (fun k => (Value.slice (some ⟨g, 0, none⟩) ws.length cu).ownBlock = some k)) => scw1_any ws[j] bit gb w' (blk_kept HBB.out h HGB.out))
        have DG := hidE (del_gone HD.out hlt)
        have DT := hidE (del_stay HD.out hij hlt)
        have hLl : L.length = ws.length := HD.out.ln
        have RS := hidE (rowW_set L i ws[j] (by omega))
        have HI9 : Hid ((Try.prog.info? 74).map (·.size) = some (cellsW ws[j]).length) := by
          show _ = _
          rw [cellsW_len]; exact sizeW
        have HI8 : Hid ((Try.prog.info? 74).map (·.size) = some (cellsW ws[j]).toArray.size) := by
          show _ = _
          simp [cellsW_len, sizeW]
        have TH : Hid ((wr.alloc (.cells zs 74)).there wr.heap.size 0 (cellsW ws[j]).toArray.size) := fun q hq => by
          simp [cellsW_len] at hq
          exact ⟨by simp; omega, by go_simp⟩
        have OC := hidE (all_oneCell_toArray (cellsW_one ws[j]))
        have CLEN : Hid ((cellsW ws[j]).length = 257) := cellsW_len _
        generalize hcx : (ws[j].1 == bit) = r at *
        have HCX := hidE hcx
        clear hcx
        have BN := hidE (blk_new_cells wr zs 74 (cellsW ws[j]) (by rw [cellsW_len, zs257]))
        have KN := hidE (kept_new_cells (g := wr.heap.size) HK.out.b0.size (cellsW ws[j]) 0 _ (kept_alloc HK.out (.cells zs 74)))
        have hown := (own_at HO.out g rfl).2
        have ON := hidE (own_kept HO.out (kept_new_cells (a := wr) (bad := fun _ => False) (g := wr.heap.size) (Nat.le_refl _) (cellsW ws[j]) 0 _ (kept_alloc (keptB_of_below (Below.refl wr.heap.size wr)) (.cells zs 74))) (fun _ _ h => h))
        obtain ⟨gn, hgn⟩ : ∃ gn, wr.heap.size = gn := ⟨_, rfl⟩
        have hgne : gn ≠ g := by omega
        obtain ⟨wn, hwn⟩ : ∃ wn, (wr.alloc (.cells zs 74)).setCells wr.heap.size 0 (cellsW ws[j]).toArray.toList = wn := ⟨_, rfl⟩
        have EWN := hidE hwn
        have hwn2 : (wr.alloc (.cells zs 74)).setCells wr.heap.size 0 (cellsW ws[j]) = wn := hwn
        rw [hwn2] at BN KN ON
        have RN : Hid (∀ w', KeptB wn w' (fun k => (Value.slice (some ⟨g, 0, none⟩) ws.length cu).ownBlock = some k) → w'.rangeAt wr.heap.size 0 (cellsW ws[j])) := fun w' hk => by
          have h9 := rangeAt_blk (pre := []) (post := []) (cs := cellsW ws[j]) (blk_kept BN.out hk (fun h => by
            have : g = wr.heap.size := Option.some.inj h
            omega)) (by simp)
          simpa using h9
        have RN0 := hidE (RN.out wn (keptB_of_below (Below.refl _ _)))
        have CPN := hidE (CP.out wn KN.out)
        have hp1 : ∃ pj, ws[j] = pj := ⟨_, rfl⟩
        obtain ⟨pj, hpj⟩ := hp1
        rw [hpj] at RG CPN DT RS HI9 HI8 TH OC EWN RN RN0 BN CLEN
        generalize hcwj : cellsW pj = cw at *
        clear hwn hwn2 hLj hLl CP HO HK hgn
        go_wp2_with (first | (refine wpList_load_mid rfl 74 _ rfl g (j * 257) rfl cw _ RG.out Try.underlying74 rfl HI9.out ?_) | (refine wpList_store_to rfl 74 _ _ rfl wr.heap.size 0 cw.toArray rfl rfl TH.out HI8.out OC.out EWN.out ?_) | (refine wpList_load_mid rfl 74 _ rfl wr.heap.size 0 rfl cw _ RN0.out Try.underlying74 rfl HI9.out ?_))
        refine CPN.out.mono ?_
        rintro e w2 ⟨rfl, hb⟩
        have HK2 := hidE (keptB_trans KN.out (keptB_of_below hb))
        have HO2 := hidE (own_keep ON.out hb (Nat.le_refl _))
        have RN2 := hidE (RN.out w2 (keptB_of_below hb))
        clear hb KN ON RN RN0 CPN TH EWN BN RG
        cases r with
        | true =>
          clear DT RS
          go_wp2_with fail
          go_roundw
          case rel => exact ⟨i, j + 1, L, by omega, by omega, rfl, by go_num, hidE (DG.out (by first | trivial | exact HCX.out)), HO2, HK2⟩
          case measure => simp [intOf]; omega
        | false =>
          have hrl : (rowW L).length = ws.length * 257 := HO2.out.1
          have hil : i * 257 + cw.length ≤ (rowW L).length := by
            have := CLEN.out
            have h9 := idx_lt (i := i) (j := 256) (n := ws.length) (S := 257) (by omega) (by omega)
            omega
          have NO := owns_setCells cw (i * 257) w2 _ HO2.out hil
          rw [RS.out] at NO
          have NOH := hidE NO
          have NK := hidE (kept_setCells (b := w2) (bad := fun k => (Value.slice (some ⟨g, 0, none⟩) ws.length cu).ownBlock = some k) (g := g) rfl cw (i * 257) w2 HK2.out)
          have TH2 : Hid (w2.there g (i * 257) cw.toArray.size) := fun q hq => by
            rw [List.size_toArray] at hq
            have h8 := HO2.out.cellAt (i * 257 + q) (by have := HO2.out.1; omega)
            refine ⟨?_, owns_thaw HO2.out _⟩
            rw [h8, List.getElem?_eq_getElem (by omega)]
            rfl
          clear hrl hil NO DG RS HK2 HO2
          go_wp2_with (first | (refine wpList_load_mid rfl 74 _ rfl wr.heap.size 0 rfl cw _ RN2.out Try.underlying74 rfl HI9.out ?_) | (refine wpList_store_mid rfl 74 _ _ rfl g (i * 257) cw.toArray rfl rfl TH2.out HI8.out OC.out ?_))
          go_roundw
          case rel => exact ⟨i + 1, j + 1, L.set i pj, by omega, by omega, by go_num, by go_num, hidE (DT.out (by first | trivial | exact HCX.out)), NOH, NK⟩
          case measure => simp [intOf]; omega
      · have hje : j = ws.length := by omega
        subst hje
        have hrl : (rowW L).length = ws.length * 257 := HO.out.1
        have hsub : i * 257 + (ws.length - i) * 257 = ws.length * 257 := by rw [← Nat.add_mul]; congr 1; omega
        have CL := hidE (clearW wr g (i * 257) (ws.length - i) (cu - i) zs257 zone.out hzv (by omega) (fun q hq => by
          rw [HO.out.cellAt (i * 257 + q) (by omega), List.getElem?_eq_getElem (by omega)]
          rfl) (fun q hq => owns_thaw HO.out (i * 257 + q)))
        have NK := hidE (kept_setCells (b := wr) (bad := fun k => (Value.slice (some ⟨g, 0, none⟩) ws.length cu).ownBlock = some k) (g := g) rfl (Builtin.zeroCells zs (ws.length - i)).toList (i * 257) wr HK.out)
        have hcl := CL.out
        have FT : Hid (L.take i = ws.filter (fun p => !(p.1 == bit))) := by
          have h9 := HD.out.fs
          rw [List.take_length] at h9
          exact h9
        have FL : Hid (i = (ws.filter (fun p => !(p.1 == bit))).length) := by
          have h9 := del_len HD.out
          rw [List.take_length] at h9
          exact h9
        have NO := owns_shrink (owns_setCells (Builtin.zeroCells zs (ws.length - i)).toList (i * 257) wr _ HO.out (by rw [zeroW_len zs257, hrl]; omega)) i (by omega)
        have eR : ((rowW L).take (i * 257) ++ ((Builtin.zeroCells zs (ws.length - i)).toList ++ (rowW L).drop (i * 257 + (Builtin.zeroCells zs (ws.length - i)).toList.length))).take (i * 257) = rowW (ws.filter (fun p => !(p.1 == bit))) := by
          have h1 : ((rowW L).take (i * 257)).length = i * 257 := by rw [List.length_take]; omega
          rw [List.take_left' h1, ← FT.out]
          have hs : rowW L = rowW (L.take i) ++ rowW (L.drop i) := by unfold rowW; rw [← rowOf_app, List.take_append_drop]
          have hl9 : (rowW (L.take i)).length = i * 257 := by unfold rowW; rw [rowOf_len cellsW_len, List.length_take, HD.out.ln, Nat.min_eq_left (by omega)]
          rw [hs, List.take_left' hl9]
        rw [eR] at NO
        have NOH := hidE NO
        clear CL NO eR hsub hrl
        go_wp2_with (simp only [hcl])
        clear hcl
        go_ret
        refine ⟨.slice (some ⟨g, 0, none⟩) i cu, rfl, ?_, rfl, NK.out⟩
        rw [← FL.out]
        exact NOH.out
  · have e : ws.filter (fun p => !(p.1 == bit)) = ws := List.filter_eq_self.2 fun p hp => by simp [h1 p hp]
    have E := hidE e
    have HR := hidE (own_keep HO.out hb (Nat.le_refl _))
    have HK1 : Hid (KeptB w w1 (fun k => (Value.slice au ws.length cu).ownBlock = some k)) := keptB_of_below hb
    clear h1 hb IX HO e
    go_wp2_with fail
    go_ret
    exact ⟨_, rfl, by rw [E.out]; exact HR.out, rfl, HK1.out⟩
end Go.Proofs.Ytjiopjdbifcfkac

/- The contract of a sector's write, over this seat's translation. Conditions: as named. -/
import Derived.Test.YtjiopjdbifcfkacDisk3
import Derived.Great.BuildSlice
import Derived.Great.FillDense
namespace Go.Proofs.Ytjiopjdbifcfkac
open Go.ChangeShapes Go.WideShapes Go.ChangeAt Go.RowKit
set_option linter.unusedVariables false
set_option linter.unusedSimpArgs false

/-- a slice of one thing of many cells, as one operation of a region -/
theorem op_build_one {P : Program} {Q : Exit → Act → World → Prop} {K : Act → World → Prop} {o : Oper} {a : Act} {w : World} (t e : TypeId) (x : Operand) (ho : o.op = .buildSlice t 1 #[(0, x)]) (cw : List Value) (s : Nat) (hx : a.eval x = .agg cw.toArray) (ie : TypeInfo) (z : Value)
    (hu : P.underlying t = some (.slice e)) (hie : P.info? e = some ie) (hz : ie.zero = some z) (hs : ie.size = s) (hl : cw.length = s) (h0 : 0 < s) (h24 : s ≤ 2 ^ 24)
    (h : K (a.put o.dst (.slice (some ⟨w.heap.size, 0, none⟩) 1 1)) (w.alloc (.cells cw.toArray e))) : o.wp P a w K Q := by
  refine wp_buildSlice t e 1 _ ho cw.toArray ie z hu hie hz (by rw [hs]; omega) (by rw [hs]; omega) ?_ h
  have e1 : ((#[(0, x)] : Array (Nat × Operand)).map fun (i, x) => (i, a.eval x)).toList = [(0, a.eval x)] := by simp
  rw [e1, hx, hs]
  have h2 := Great.fill_whole h0 [Value.agg cw.toArray] ((Array.range (1 * s)).map (z.cells[· % z.cells.size]!)) (fun v hv => by
    rw [List.mem_singleton.1 hv]
    simp [Value.cells, hl]) (by simp)
  simpa [Value.cells] using h2

/-- a struct of one field, the others zero, as one operation of a region -/
theorem wp_build_one {P : Program} {Q : Exit → Act → World → Prop} {K : Act → World → Prop} {o : Oper} {a : Act} {w : World} (t : TypeId) (x : Operand) (ho : o.op = .build t #[(0, x)]) (v u : Value) (hx : a.eval x = v) (hrun : (Instr.build t #[(0, v)]).run P w = .ok u w)
    (h : K (a.put o.dst u) w) : o.wp P a w K Q := by
  unfold Oper.wp execOp
  have e1 : (#[(0, x)] : Array (Nat × Operand)).map (fun (i, x) => (i, a.eval x)) = #[(0, v)] := by simp [hx]
  simp only [ho, e1, Sem.run_bind, hrun, Result.andThen_ok]
  exact h
theorem wpList_build_one {P : Program} {ops : Array Oper} {rest : List Oper} {Q : Exit → Act → World → Prop} {o : Oper} {a : Act} {w : World} (hg : o.guard = none) (t : TypeId) (x : Operand) (ho : o.op = .build t #[(0, x)]) (v u : Value) (hx : a.eval x = v) (hrun : (Instr.build t #[(0, v)]).run P w = .ok u w)
    (h : wpList P ops Q rest (a.put o.dst u) w) : wpList P ops Q (o :: rest) a w := wpList_plain hg fun _ hK => wp_build_one t x ho v u hx hrun (hK _ _ h)

theorem wpList_store_to {P : Program} {ops : Array Oper} {rest : List Oper} {op : Oper} {a : Act} {w w1 : World} {Q : Exit → Act → World → Prop} (hgd : op.guard = none) (ty : TypeId) (x y : Operand) (ho : op.op = .store ty x y)
    (b o : Nat) (cells : Array Value) (hx : a.eval x = .pointer (some ⟨b, o, none⟩)) (hy : a.eval y = .agg cells)
    (ht : w.there b o cells.size) (hi : (P.info? ty).map (·.size) = some cells.size) (h1 : cells.all (·.oneCell') = true) (hw : w.setCells b o cells.toList = w1)
    (h : wpList P ops Q rest (a.put op.dst undef) w1) : wpList P ops Q (op :: rest) a w := wpList_store_mid hgd ty x y ho b o cells hx hy ht hi h1 (hw ▸ h)

/-- a text, and noughts behind it -/
def pad (t : ByteArray) (h : t.size ≤ 256) : Blk := ⟨t.data.toList ++ List.replicate (256 - t.size) 0, by
  have : t.data.toList.length = t.size := by rw [Array.length_toList]; rfl
  rw [List.length_append, List.length_replicate, this]; omega⟩
def zeroB : Blk := ⟨List.replicate 256 0, List.length_replicate⟩
set_option maxRecDepth 100000 in
theorem infoW : (Try.prog.info? 74).map (fun i => (i.zero, i.size, i.bytes)) = some (some (.agg (Value.int .i64 0 :: List.replicate 256 (Value.int .u8 0)).toArray), 257, 264) := by kernel_rfl
theorem zeroCW : (Value.int .i64 0 :: List.replicate 256 (Value.int .u8 0)) = cellsW (0, zeroB) := by
  unfold cellsW bc zeroB
  simp only
  rw [List.map_replicate]
  rfl
set_option maxRecDepth 100000 in
theorem buildW0 (bit : Int) (w : World) : (Instr.build 74 #[(0, .int .i64 bit)]).run Try.prog w = .ok (.agg (Value.int .i64 bit :: List.replicate 256 (Value.int .u8 0)).toArray) w := by kernel_rfl
theorem buildW (bit : Int) (w : World) : (Instr.build 74 #[(0, .int .i64 bit)]).run Try.prog w = .ok (.agg (cellsW (bit, zeroB)).toArray) w := by
  rw [buildW0]
  have e : (Value.int .i64 bit :: List.replicate 256 (Value.int .u8 0)) = cellsW (bit, zeroB) := by
    unfold cellsW bc zeroB
    simp only
    rw [List.map_replicate]
    rfl
  rw [e]
theorem zeroV : ∃ zs : Array Value, zs.size = 257 ∧ zs.toList = cellsW (0, zeroB) ∧ ∀ w, (zeroValue 74).run Try.prog w = .ok (.agg zs) w := by
  refine ⟨(Value.int .i64 0 :: List.replicate 256 (Value.int .u8 0)).toArray, ?_, ?_, (zero_of_info (P := Try.prog) (t := 74) (v := .agg (Value.int .i64 0 :: List.replicate 256 (Value.int .u8 0)).toArray) (n := 257) (by kernel_rfl)).1⟩
  · rw [List.size_toArray, List.length_cons, List.length_replicate]
  · rw [← zeroCW]

theorem copy_pad (bit : Int) (t : ByteArray) (ht : t.size ≤ 256) {w : World} {g : Nat} (h : BlkAt w g (cellsW (bit, zeroB))) : BlkAt (w.setCells g 1 (bc t.data.toList)) g (cellsW (bit, pad t ht)) := by
  have hn0 : t.data.toList.length = t.size := by rw [Array.length_toList]; rfl
  have h2 := blk_setCells h 1 (bc t.data.toList) (by rw [bc_len, cellsW_len, hn0]; omega)
  have e : (cellsW (bit, zeroB)).take 1 ++ (bc t.data.toList ++ (cellsW (bit, zeroB)).drop (1 + (bc t.data.toList).length)) = cellsW (bit, pad t ht) := by
    rw [bc_len, hn0, Nat.add_comm]
    show [Value.int .i64 bit] ++ (bc t.data.toList ++ (bc (List.replicate 256 0)).drop t.size) = Value.int .i64 bit :: bc (t.data.toList ++ List.replicate (256 - t.size) 0)
    unfold bc
    rw [← List.map_drop, List.drop_replicate, List.map_append]
    rfl
  rw [e] at h2
  exact h2
set_option maxRecDepth 100000 in
set_option maxHeartbeats 1000000 in
theorem scwrite_any (bit : Int) (t : ByteArray) (ht : t.size ≤ 256) (s : Sec) (B gs : Nat) (pre post : List Value) (w : World) (hb : BlkAt w gs (pre ++ (cellsS s ++ post))) (hown : w.ownsRow B 74 257 s.wv s.ws.length (rowW s.ws)) (hB : B ≤ w.heap.size) (hl : s.ws.length ≤ 900) (hno : ∀ p ∈ s.ws, p.1 ≠ bit)
    (hne : s.wv.ownBlock ≠ some gs) :
    Calls Try.prog 24 #[.pointer (some ⟨gs, pre.length, none⟩), .int .i64 bit, .string t] w fun e w' => e = .returned (.tuple #[]) ∧ ∃ wv', KeptB w w' (fun k => k = gs ∨ s.wv.ownBlock = some k) ∧ BlkAt w' gs (pre ++ (cellsS ⟨s.kept, s.ws ++ [(bit, pad t ht)], wv'⟩ ++ post)) ∧
      w'.ownsRow B 74 257 wv' (s.ws ++ [(bit, pad t ht)]).length (rowW (s.ws ++ [(bit, pad t ht)])) ∧ (wv'.ownBlock = s.wv.ownBlock ∨ ∃ k, wv'.ownBlock = some k ∧ w.heap.size ≤ k) := by
  obtain ⟨kept, ws, wv⟩ := s
  obtain ⟨ao, cap, hwv⟩ := owns_shapeE hown
  simp only at hwv hown hl hne hno ⊢
  subst hwv
  obtain ⟨zs, zs257, zc, hzv⟩ := zeroV
  have BG := hidE (blk_alloc w [.int .i64 bit] 3)
  have K0 := hidE (kept_alloc (bad := fun _ => False) (keptB_of_below (Below.refl w.heap.size w)) (.cells #[.int .i64 bit] 3))
  have g0 : (w.alloc (.cells #[.int .i64 bit] 3)).cell? ⟨w.heap.size, 0, none⟩ = some (.int .i64 bit) := BG.out.c 0 (by simp)
  have hs1 : (w.alloc (.cells #[.int .i64 bit] 3)).heap.size = w.heap.size + 1 := by simp
  have BZ := blk_alloc (w.alloc (.cells #[.int .i64 bit] 3)) zs.toList 74
  rw [hs1, Array.toArray_toList] at BZ
  have THS : Hid (((w.alloc (.cells #[.int .i64 bit] 3)).alloc (.cells zs 74)).there (w.heap.size + 1) 0 (cellsW (bit, zeroB)).toArray.size) := there_blk BZ 0 _ (by rw [List.size_toArray, zc, cellsW_len, cellsW_len]; omega)
  have HIS : Hid ((Try.prog.info? 74).map (·.size) = some (cellsW (bit, zeroB)).toArray.size) := by
    show _ = _
    rw [List.size_toArray, cellsW_len]; exact sizeW
  have OCS := hidE (all_oneCell_toArray (cellsW_one (bit, zeroB)))
  have BLW := hidE (fun w => buildW bit w)
  have BZ2 := blk_setCells BZ 0 (cellsW (bit, zeroB)) (by rw [zc, cellsW_len, cellsW_len]; omega)
  have eT : zs.toList.take 0 ++ (cellsW (bit, zeroB) ++ zs.toList.drop (0 + (cellsW (bit, zeroB)).length)) = cellsW (bit, zeroB) := by
    rw [List.take_zero, List.nil_append, zc, List.drop_of_length_le (by rw [cellsW_len, cellsW_len]; omega), List.append_nil]
  rw [eT] at BZ2
  have HBZ := hidE BZ2
  have hn0 : t.data.toList.length = t.size := by rw [Array.length_toList]; rfl
  have K1 := hidE (kept_new_cells (g := w.heap.size + 1) (by omega) (cellsW (bit, zeroB)) 0 _ (kept_alloc K0.out (.cells zs 74)))
  have hw1 : ((((w.alloc (.cells #[.int .i64 bit] 3)).alloc (.cells zs 74)).setCells (w.heap.size + 1) 0 (cellsW (bit, zeroB)))).heap.size = w.heap.size + 2 := by rw [size_setCells]; simp
  have hgs := hb.lt
  have BG1 := hidE (blk_far_cells (blk_below BG.out (below_alloc _ (.cells zs 74)) BG.out.lt) (by omega : w.heap.size + 1 ≠ w.heap.size) 0 (cellsW (bit, zeroB)))
  clear BZ BZ2 eT g0 BG K0
  have HB := hidE hb
  have HO := hidE hown
  have HN := hidE hno
  have HNE := hidE hne
  have hob := own_at hown
  clear hb hown hno hne
  generalize hW1 : (((w.alloc (.cells #[.int .i64 bit] 3)).alloc (.cells zs 74)).setCells (w.heap.size + 1) 0 (cellsW (bit, zeroB))) = w1 at *
  have EW1 := hidE hW1
  clear hW1
  have g0 : (w.alloc (.cells #[.int .i64 bit] 3)).cell? ⟨w.heap.size, 0, none⟩ = some (.int .i64 bit) := (blk_alloc w [.int .i64 bit] 3).c 0 (by simp)
  have CP0 := run_copy_string (P := Try.prog) w1 71 9 3 5 (w.heap.size + 1) 1 256 256 t Try.underlying71 (fun w => by go_simp) ht (fun j hj => by rw [HBZ.out.c (1 + j) (by rw [cellsW_len]; omega)]; simp [cellsW_len]; omega) (fun j hj => HBZ.out.fz _)
  have B2 := hidE (copy_pad bit t ht HBZ.out)
  have BG2 := hidE (blk_far_cells BG1.out (by omega : w.heap.size + 1 ≠ w.heap.size) 1 (bc t.data.toList))
  have K2 := hidE (kept_new_cells (g := w.heap.size + 1) (by omega) (bc t.data.toList) 1 _ K1.out)
  have hz2 : (w1.setCells (w.heap.size + 1) 1 (bc t.data.toList)).heap.size = w.heap.size + 2 := by rw [size_setCells]; exact hw1
  have CP : (Builtin.copy_ #[71, 9] 3 #[.slice (some ⟨w.heap.size + 1, 1, none⟩) 256 256, .string t]).run Try.prog w1 = .ok (goInt t.size) (w1.setCells (w.heap.size + 1) 1 (bc t.data.toList)) := CP0
  clear CP0
  generalize hW2 : w1.setCells (w.heap.size + 1) 1 (bc t.data.toList) = w2 at *
  clear hW2
  have HB2 := hidE (blk_kept HB.out K2.out (fun h => h))
  have HO2 := hidE (own_kept HO.out K2.out (fun _ _ h => h))
  have cv : w2.cell? ⟨gs, pre.length + 256, none⟩ = some (.slice ao ws.length cap) := by rw [sec_at HB2.out 256 (by omega), cellsS_wv]
  have DN := hidE (delete_none ws bit w.heap.size cap ao w2 (by omega) (rowG_of_owns HO2.out) BG2.out HN.out)
  clear BG1 HBZ K1 hw1
  go_enter Try.func24, Try.ntmps24
  clear zc zs257
  have EW2 : Hid (((w.alloc (.cells #[.int .i64 bit] 3)).alloc (.cells zs 74)).setCells (w.heap.size + 1) 0 (cellsW (bit, zeroB)).toArray.toList = w1) := EW1.out
  clear EW1
  generalize cellsW (bit, zeroB) = cz at *
  go_wp2_with (first | (refine wpList_build_one rfl 74 _ rfl (.int .i64 bit) _ rfl (BLW.out _) ?_) | (refine wpList_store_to rfl 74 _ _ rfl (w.heap.size + 1) 0 cz.toArray rfl rfl THS.out HIS.out OCS.out EW2.out ?_))
  refine DN.out.mono ?_
  rintro e w3 ⟨rfl, hb⟩
  have K3 := hidE (keptB_trans K2.out (keptB_of_below hb))
  have B3 := hidE (blk_below B2.out hb B2.out.lt)
  have HB3 := hidE (blk_below HB2.out hb HB2.out.lt)
  have HO3 := hidE (own_keep HO2.out hb (Nat.le_refl _))
  have hz3 := hb.size
  clear hb DN K2 B2 HB2 HO2 BG2 CP g0 cv
  have cx : w3.cell? ⟨gs, pre.length + 256, none⟩ = some (.slice ao ws.length cap) := by rw [sec_at HB3.out 256 (by omega), cellsS_wv]
  have fx := HB3.out.fz (pre.length + 256)
  have hgw2 : w.heap.size + 1 ≠ gs := by omega
  have hgo : ∀ k, (Value.slice ao ws.length cap).ownBlock = some k → k ≠ w.heap.size + 1 := fun k hk e => by have := (hob k hk).2; omega
  have B4 := hidE (blk_far B3.out (g' := gs) (fun e => hgw2 e.symm) (pre.length + 256) (.slice ao ws.length cap))
  have HB4 := hidE (sec_wv (ws' := ws) HB3.out (.slice ao ws.length cap))
  have K4 := hidE (keptB_set (keptB_mono (bad' := fun k => k = gs ∨ (Value.slice ao ws.length cap).ownBlock = some k) K3.out (fun _ h => h.elim)) (.inl rfl) (pre.length + 256) (.slice ao ws.length cap))
  have HO4 := hidE (own_kept HO3.out (keptB_set (keptB_of_below (bad := fun k => k = gs) (Below.refl w3.heap.size w3)) rfl (pre.length + 256) (.slice ao ws.length cap)) (fun k hk e => HNE.out (by rw [hk, e])))
  have hz4 : (w3.setCell ⟨gs, pre.length + 256, none⟩ (.slice ao ws.length cap)).heap.size = w3.heap.size := by simp
  go_upto_region 4 with fail
  clear cx fx
  generalize w3.setCell ⟨gs, pre.length + 256, none⟩ (.slice ao ws.length cap) = w4 at *
  clear HB3 B3 HO3 K3
  have cz : w4.cell? ⟨gs, pre.length + 256, none⟩ = some (.slice ao ws.length cap) := by rw [sec_at HB4.out 256 (by omega), cellsS_wv]
  have lgs := HB4.out.lt
  have ngs : ¬ (Value.slice ao ws.length cap).ownBlock = some gs := HNE.out
  have RGS : Hid (∀ wq, KeptB w4 wq (fun k => (Value.slice ao ws.length cap).ownBlock = some k) → wq.rangeAt (w.heap.size + 1) 0 (cellsW (bit, pad t ht))) := fun wq hq => by
    have h9 := rangeAt_blk (pre := []) (post := []) (cs := cellsW (bit, pad t ht)) (blk_kept B4.out hq (fun h => hgo _ h rfl)) (by simp)
    simpa using h9
  have HI9 : Hid ((Try.prog.info? 74).map (·.size) = some (cellsW (bit, pad t ht)).length) := by
    show _ = _
    rw [cellsW_len]; exact sizeW
  have dd : Below w4.heap.size w4 ({ w4 with drawn := w4.drawn + 1 } : World) := (Below.refl _ _).drew
  have HRO := hidE (own_keep HO4.out dd (Nat.le_refl _))
  have hS : KeptB w4 ({ w4 with drawn := w4.drawn + 1 } : World) (fun k => (Value.slice ao ws.length cap).ownBlock = some k) := keptB_of_below dd
  have HBD := hidE (blk_below HB4.out dd HB4.out.lt)
  refine wp_region_last (fun w' => KeptB w4 w' (fun k => (Value.slice ao ws.length cap).ownBlock = some k)) 10 (by kernel_rfl) ?_
  generalize ({ w4 with drawn := w4.drawn + 1 } : World) = wd at *
  have hzd := dd.size
  obtain ⟨i0, hi, hz0, hz1, hz2'⟩ := info_parts infoW
  refine last_take (i := 0) (v := .pointer (some ⟨gs, pre.length, none⟩)) (L := #[true, false, false, false, false, false, false, false, false, false, false]) [8, 9, 10] rfl (by kernel_rfl) (by kernel_rfl) (by kernel_rfl) (by kernel_rfl) (by kernel_rfl) (fun c a w h => h) (Or.inl ⟨by kernel_rfl, fun wq hq => by go_simp⟩) hS (by kernel_rfl) ?_
  refine last_take (i := 1) (v := .pointer (some ⟨gs, pre.length, none⟩)) (L := #[true, true, false, false, false, false, false, false, false, false, false]) [2, 3, 4, 7, 8, 9, 10] rfl (by kernel_rfl) (by kernel_rfl) (by kernel_rfl) (by kernel_rfl) (by kernel_rfl) (fun c a w h => h) (Or.inl ⟨by kernel_rfl, fun wq hq => by go_simp⟩) hS (by kernel_rfl) ?_
  refine last_take (i := 2) (v := .pointer (some ⟨gs, pre.length, none⟩)) (L := #[true, true, true, false, false, false, false, false, false, false, false]) [3, 4, 7, 8, 9, 10] rfl (by kernel_rfl) (by kernel_rfl) (by kernel_rfl) (by kernel_rfl) (by kernel_rfl) (fun c a w h => h) (Or.inl ⟨by kernel_rfl, fun wq hq => by go_simp⟩) hS (by kernel_rfl) ?_
  refine last_take (i := 3) (v := .pointer (some ⟨gs, pre.length + 256, none⟩)) (L := #[true, true, true, true, false, false, false, false, false, false, false]) [4, 7, 8, 9, 10] rfl (by kernel_rfl) (by kernel_rfl) (by kernel_rfl) (by kernel_rfl) (by kernel_rfl) (fun c a w h => h) (Or.inl ⟨by kernel_rfl, fun wq hq => by go_simp⟩) hS (by kernel_rfl) ?_
  refine last_take (i := 4) (v := .slice ao ws.length cap) (L := #[true, true, true, true, true, false, false, false, false, false, false]) [7, 8, 9, 10] rfl (by kernel_rfl) (by kernel_rfl) (by kernel_rfl) (by kernel_rfl) (by kernel_rfl) (fun c a w h => h) (Or.inl ⟨by kernel_rfl, fun wq hq => by have q := kept_cell hq (pre.length + 256) lgs ngs; rw [cz] at q; go_simp⟩) hS (by kernel_rfl) ?_
  refine last_take (i := 5) (v := .agg (cellsW (bit, pad t ht)).toArray) (L := #[true, true, true, true, true, true, false, false, false, false, false]) [6, 7, 8, 9, 10] rfl (by kernel_rfl) (by kernel_rfl) (by kernel_rfl) (by kernel_rfl) (by kernel_rfl) (fun c a w h => h) (yieldsIf_load_mid (by kernel_rfl) 74 (.tmp 6) rfl (w.heap.size + 1) 0 (by kernel_rfl) (cellsW (bit, pad t ht)) _ (fun wq hq => RGS.out wq hq) Try.underlying74 rfl HI9.out) hS (by kernel_rfl) ?_
  refine last_go (i := 6) (L := #[true, true, true, true, true, true, true, false, false, false, false]) (by kernel_rfl) rfl (by kernel_rfl) (by kernel_rfl) ?_
  intro K' hK
  have SA := hidE (kept_alloc hS (.cells (cellsW (bit, pad t ht)).toArray 74))
  have BNW := hidE (blk_alloc wd (cellsW (bit, pad t ht)) 74)
  have HRO2 := hidE (own_keep HRO.out (below_alloc wd (.cells (cellsW (bit, pad t ht)).toArray 74)) (Nat.le_refl _))
  have HBS : Hid (B ≤ (wd.alloc (.cells (cellsW (bit, pad t ht)).toArray 74)).heap.size) := by show _ ≤ _; have := (below_alloc wd (.cells (cellsW (bit, pad t ht)).toArray 74)).size; omega
  have HBD2 := hidE (blk_below HBD.out (below_alloc wd (.cells (cellsW (bit, pad t ht)).toArray 74)) HBD.out.lt)
  refine op_build_one 63 74 (.tmp 27) rfl (cellsW (bit, pad t ht)) 257 (by kernel_rfl) i0 _ Try.underlying63 hi hz0 hz1 (cellsW_len _) (by decide) (by decide) ?_
  refine hK _ _ ⟨fun _ => SA.out, ?_⟩
  clear hK
  refine last_go (i := 7) (L := #[true, true, true, true, true, true, true, true, false, false, false]) (by kernel_rfl) rfl (by kernel_rfl) (by kernel_rfl) ?_
  intro K' hK
  refine op_append_own (.tmp 26) (.tmp 28) 63 rfl B 74 i0 _ 257 264 Try.underlying63 hi hz0 hz1 hz2' (by kernel_rfl) (by decide) (.slice ao ws.length cap) ws.length (rowW ws) (by kernel_rfl) HRO2.out ⟨wd.heap.size, 0, none⟩ 1 1 (cellsW (bit, pad t ht)) (by kernel_rfl) (cellsW_len _) (fun j u hu => by rw [add_at, Nat.zero_add, BNW.out.c j (List.getElem?_eq_some_iff.1 hu).1]; exact hu) (cellsW_one _) (by show _ ≤ 2 ^ 63 - 1; omega) (by omega) HBS.out ?_
  intro v' w5 ho hg hob2
  obtain ⟨ao', cap', rfl⟩ := owns_shapeE ho
  have HK5 := hidE (keptB_grown SA.out hg (fun k hk _ => hk))
  have BK5 := hidE (blk_grown HBD2.out hg ngs)
  have HOW := hidE ho
  have HOB := hidE hob2
  refine hK _ _ ⟨fun _ => HK5.out, ?_⟩
  clear hK ho hg hob2
  refine last_go (i := 8) (L := #[true, true, true, true, true, true, true, true, true, false, false]) (by kernel_rfl) rfl (by kernel_rfl) (by kernel_rfl) ?_
  intro K' hK
  go_simp
  refine hK _ _ ⟨fun _ => HK5.out, ?_⟩
  clear hK
  refine last_go (i := 9) (L := #[true, true, true, true, true, true, true, true, true, true, false]) (by kernel_rfl) rfl (by kernel_rfl) (by kernel_rfl) ?_
  intro K' hK
  go_simp
  refine hK _ _ ⟨fun _ => HK5.out, ?_⟩
  clear hK
  refine last_go (i := 10) (L := #[true, true, true, true, true, true, true, true, true, true, true]) (by kernel_rfl) rfl (by kernel_rfl) (by kernel_rfl) ?_
  intro K' hK
  have cy : w5.cell? ⟨gs, pre.length + 256, none⟩ = some (.slice ao ws.length cap) := by rw [sec_at BK5.out 256 (by omega), cellsS_wv]
  have fy := BK5.out.fz (pre.length + 256)
  go_simp
  refine hK _ _ ⟨fun h => absurd rfl h, ?_⟩
  clear hK cy fy
  refine last_done (by kernel_rfl) ?_ _
  have hzn := (below_alloc wd (.cells (cellsW (bit, pad t ht)).toArray 74)).size
  have hno5 : ∀ k, (Value.slice ao' (ws.length + 1) cap').ownBlock = some k → ¬ k = gs := fun k hk e => by
    rcases HOB.out with h | h
    · exact HNE.out (by rw [← h, hk, e])
    · rw [h] at hk
      have := Option.some.inj hk
      omega
  have el : (ws ++ [(bit, pad t ht)]).length = ws.length + 1 := by simp
  have er : rowW (ws ++ [(bit, pad t ht)]) = rowW ws ++ cellsW (bit, pad t ht) := by
    unfold rowW
    rw [rowOf_app, rowOf_one]
  show bodyPost _ _ _ _ _ _
  refine ⟨rfl, _, by simp [results], rfl, .slice ao' (ws.length + 1) cap', ?_, sec_wv BK5.out _, ?_, ?_⟩
  · exact keptB_set (keptB_trans K4.out (keptB_mono HK5.out (fun k h => .inr h))) (.inl rfl) _ _
  · rw [el, er]
    exact own_kept HOW.out (keptB_set (keptB_of_below (bad := fun k => k = gs) (Below.refl w5.heap.size w5)) rfl _ _) hno5
  · rcases HOB.out with h | h
    · exact .inl h
    · exact .inr ⟨_, h, by omega⟩
end Go.Proofs.Ytjiopjdbifcfkac

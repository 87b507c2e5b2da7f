/- Several texts in one, each with its own head. What is proved: what the parts say. Conditions: theirs. -/
import Derived.Test.YteaanpdckkmjoaaGreatDoorPrs0J
import Derived.Deep.WholeRow
import Derived.Deep.DeepCutAuto
import Derived.Great.BuildSlice
import Derived.Great.FillDense
/- The contracts of slices.IndexFunc and slices.DeleteFunc at the closure of a sector's write, where none is found, over this seat's translation. Conditions: as named. -/
namespace Go.Proofs.YteaanpdckkmjoaaGreatDoor
open Go.ChangeShapes Go.WideShapes Go.ChangeAt Go.RowKit
set_option linter.unusedVariables false
set_option linter.unusedSimpArgs false

end Go.Proofs.YteaanpdckkmjoaaGreatDoor
/- The contract of a sector's text, over this seat's translation. Conditions: as named. -/
namespace Go.Proofs.YteaanpdckkmjoaaGreatDoor
open Go.ChangeShapes Go.WideShapes Go.ChangeAt Go.RowKit
set_option linter.unusedVariables false
set_option linter.unusedSimpArgs false

/-- a sector: what is kept, what was written since, and where that lies -/
structure Sec where
  kept : Blk
  ws : List Wr
  wv : Value
def cellsS (s : Sec) : List Value := bc s.kept.1 ++ [s.wv]
theorem cellsS_len (s : Sec) : (cellsS s).length = 257 := by simp [cellsS, bc_len, s.kept.2]
/-- a sector as it is read -/
def textSec (s : Sec) : Blk := (s.ws.getLast?.map (·.2)).getD s.kept
def strB (b : Blk) : Value := .string ⟨b.1.toArray⟩
theorem bc_at (d : List UInt8) (j : Nat) (hj : j < d.length) : (bc d)[j]? = some (.int .u8 (d[j].toNat : Int)) := by simp [bc, hj]
theorem cellsS_kept (s : Sec) (j : Nat) (hj : j < 256) : (cellsS s)[j]? = (bc s.kept.1)[j]? := by
  unfold cellsS
  rw [List.getElem?_append_left (by rw [bc_len, s.kept.2]; exact hj)]
theorem cellsS_wv (s : Sec) : (cellsS s)[256]? = some s.wv := by
  unfold cellsS
  rw [List.getElem?_append_right (by rw [bc_len, s.kept.2]; exact Nat.le_refl _), bc_len, s.kept.2]
  rfl
theorem conv_at {w : World} {g o : Nat} (b : Blk) (h : ∀ j, j < 256 → w.cell? ⟨g, o + j, none⟩ = (bc b.1)[j]?) : (convert 83 9 (.slice (some ⟨g, o, none⟩) 256 256)).run Tryz.prog w = .ok (strB b) w := by
  have := run_convert_bytes_back (P := Tryz.prog) w 83 9 5 ⟨g, o, none⟩ 256 b.1 Tryz.underlying83 Tryz.underlying5 Tryz.underlying9 (fun j hj => by
    rw [add_at, h j (by rw [← b.2]; exact hj), bc_at])
  rw [b.2] at this
  exact this

end Go.Proofs.YteaanpdckkmjoaaGreatDoor
/- The contract of a sector's settle, over this seat's translation. Conditions: as named. -/
namespace Go.Proofs.YteaanpdckkmjoaaGreatDoor
open Go.ChangeShapes Go.WideShapes Go.ChangeAt Go.RowKit
set_option linter.unusedVariables false
set_option linter.unusedSimpArgs false

theorem rangeAt_blk {w : World} {g : Nat} {C pre cs post : List Value} (h : BlkAt w g C) (hC : C = pre ++ (cs ++ post)) : w.rangeAt g pre.length cs := fun j v hv => by
  have hj := (List.getElem?_eq_some_iff.1 hv).1
  rw [h.c (pre.length + j) (by rw [hC]; simp; omega), hC, List.getElem?_append_right (by omega), Nat.add_sub_cancel_left, List.getElem?_append_left hj]
  exact hv
theorem there_blk {w : World} {g : Nat} {C : List Value} (h : BlkAt w g C) (o n : Nat) (hn : o + n ≤ C.length) : w.there g o n := fun j hj => ⟨by rw [h.c (o + j) (by omega)]; simp; omega, h.fz _⟩
theorem kept_new_cells {a : World} {bad : Nat → Prop} {g : Nat} (hg : a.heap.size ≤ g) : ∀ (vs : List Value) (o : Nat) (b : World), KeptB a b bad → KeptB a (b.setCells g o vs) bad := fun vs o b h =>
  ⟨below_setCells (Nat.zero_le g) vs o b h.b0, fun k hk hn => (heap_setCells g k (by omega) vs o b).trans (h.block k hk hn)⟩
theorem kept_alloc {a b : World} {bad : Nat → Prop} (h : KeptB a b bad) (o : Obj) : KeptB a (b.alloc o) bad := keptB_trans h (keptB_of_below (below_alloc b o))
/-- a new variable of many cells, stored as a whole -/
theorem blk_new_cells (w : World) (zs : Array Value) (e : TypeId) (vs : List Value) (h : vs.length = zs.size) : BlkAt ((w.alloc (.cells zs e)).setCells w.heap.size 0 vs) w.heap.size vs := by
  have h0 := blk_alloc w zs.toList e
  have h1 := blk_setCells h0 0 vs (by simp [h])
  have e1 : zs.toList.take 0 ++ (vs ++ zs.toList.drop (0 + vs.length)) = vs := by
    rw [List.take_zero, List.nil_append, Nat.zero_add, List.drop_of_length_le (by simp [h]), List.append_nil]
  rw [e1] at h1
  simpa using h1
/-- is the bit set? -/
def kb (keep b : Int) : Bool := (bits .and .u64 (keep / 2 ^ b.toNat) 1 == 1)
def settleK (keep : Int) (kept : Blk) (ws : List Wr) : Blk := ws.foldl (fun acc p => if kb keep p.1 then p.2 else acc) kept
theorem settleK_next (keep : Int) (kept : Blk) (ws : List Wr) (m : Nat) (h : m < ws.length) : settleK keep kept (ws.take (m + 1)) = if kb keep ws[m].1 then ws[m].2 else settleK keep kept (ws.take m) := by
  unfold settleK
  rw [List.take_add_one, List.getElem?_eq_getElem h, List.foldl_append]
  rfl
/-- a sector in its block -/
theorem sec_at {w : World} {gs : Nat} {pre post : List Value} {s : Sec} (hb : BlkAt w gs (pre ++ (cellsS s ++ post))) (j : Nat) (hj : j < 257) : w.cell? ⟨gs, pre.length + j, none⟩ = (cellsS s)[j]? := by
  have hsl := cellsS_len s
  rw [hb.c (pre.length + j) (by simp [hsl]; omega), List.getElem?_append_right (by omega), Nat.add_sub_cancel_left, List.getElem?_append_left (by omega)]
theorem sec_kept {w : World} {gs : Nat} {pre post : List Value} {k d : Blk} {ws ws' : List Wr} {wv : Value} (hb : BlkAt w gs (pre ++ (cellsS ⟨k, ws, wv⟩ ++ post))) : BlkAt (w.setCells gs pre.length (bc d.1)) gs (pre ++ (cellsS ⟨d, ws', wv⟩ ++ post)) := by
  have hk : (bc k.1).length = 256 := by rw [bc_len, k.2]
  have hd : (bc d.1).length = 256 := by rw [bc_len, d.2]
  have h := blk_setCells hb pre.length (bc d.1) (by simp [cellsS, hk, hd])
  have e : (pre ++ (cellsS ⟨k, ws, wv⟩ ++ post)).take pre.length ++ (bc d.1 ++ (pre ++ (cellsS ⟨k, ws, wv⟩ ++ post)).drop (pre.length + (bc d.1).length)) = pre ++ (cellsS ⟨d, ws', wv⟩ ++ post) := by
    rw [List.take_left, List.drop_append, hd]
    have e1 : (cellsS ⟨k, ws, wv⟩ ++ post).drop 256 = wv :: post := by
      unfold cellsS
      simp only
      rw [List.append_assoc, List.drop_left' hk]
      rfl
    rw [List.drop_of_length_le (l := pre) (by omega), List.nil_append, Nat.add_sub_cancel_left, e1]
    simp [cellsS]
  rw [e] at h
  exact h
theorem sec_wv {w : World} {gs : Nat} {pre post : List Value} {k : Blk} {ws ws' : List Wr} {wv : Value} (hb : BlkAt w gs (pre ++ (cellsS ⟨k, ws, wv⟩ ++ post))) (v : Value) : BlkAt (w.setCell ⟨gs, pre.length + 256, none⟩ v) gs (pre ++ (cellsS ⟨k, ws', v⟩ ++ post)) := by
  have hk : (bc k.1).length = 256 := by rw [bc_len, k.2]
  have h := blk_set hb (pre.length + 256) v (by simp [cellsS, hk])
  have e : (pre ++ (cellsS ⟨k, ws, wv⟩ ++ post)).set (pre.length + 256) v = pre ++ (cellsS ⟨k, ws', v⟩ ++ post) := by
    unfold cellsS
    simp only
    rw [List.set_append_right _ _ (by omega), Nat.add_sub_cancel_left, List.append_assoc, List.append_assoc, List.set_append_right _ _ (by omega), hk]
    rfl
  rw [e] at h
  exact h

end Go.Proofs.YteaanpdckkmjoaaGreatDoor
/- The contract of a sector's write, over this seat's translation. Conditions: as named. -/
namespace Go.Proofs.YteaanpdckkmjoaaGreatDoor
open Go.ChangeShapes Go.WideShapes Go.ChangeAt Go.RowKit
set_option linter.unusedVariables false
set_option linter.unusedSimpArgs false

/-- a slice of one thing of many cells, as one operation of a region -/
theorem op_build_one {P : Program} {Q : Exit → Act → World → Prop} {K : Act → World → Prop} {o : Oper} {a : Act} {w : World} (t e : TypeId) (x : Operand) (ho : o.op = .buildSlice t 1 #[(0, x)]) (cw : List Value) (s : Nat) (hx : a.eval x = .agg cw.toArray) (ie : TypeInfo) (z : Value)
    (hu : P.underlying t = some (.slice e)) (hie : P.info? e = some ie) (hz : ie.zero = some z) (hs : ie.size = s) (hl : cw.length = s) (h0 : 0 < s) (h24 : s ≤ 2 ^ 24)
    (h : K (a.put o.dst (.slice (some ⟨w.heap.size, 0, none⟩) 1 1)) (w.alloc (.cells cw.toArray e))) : o.wp P a w K Q := by
  refine wp_buildSlice t e 1 _ ho cw.toArray ie z hu hie hz (by rw [hs]; omega) (by rw [hs]; omega) ?_ h
  have e1 : ((#[(0, x)] : Array (Nat × Operand)).map fun (i, x) => (i, a.eval x)).toList = [(0, a.eval x)] := by simp
  rw [e1, hx, hs]
  have h2 := Great.fill_whole h0 [Value.agg cw.toArray] ((Array.range (1 * s)).map (z.cells[· % z.cells.size]!)) (fun v hv => by
    rw [List.mem_singleton.1 hv]
    simp [Value.cells, hl]) (by simp)
  simpa [Value.cells] using h2

/-- a struct of one field, the others zero, as one operation of a region -/
theorem wp_build_one {P : Program} {Q : Exit → Act → World → Prop} {K : Act → World → Prop} {o : Oper} {a : Act} {w : World} (t : TypeId) (x : Operand) (ho : o.op = .build t #[(0, x)]) (v u : Value) (hx : a.eval x = v) (hrun : (Instr.build t #[(0, v)]).run P w = .ok u w)
    (h : K (a.put o.dst u) w) : o.wp P a w K Q := by
  unfold Oper.wp execOp
  have e1 : (#[(0, x)] : Array (Nat × Operand)).map (fun (i, x) => (i, a.eval x)) = #[(0, v)] := by simp [hx]
  simp only [ho, e1, Sem.run_bind, hrun, Result.andThen_ok]
  exact h
theorem wpList_build_one {P : Program} {ops : Array Oper} {rest : List Oper} {Q : Exit → Act → World → Prop} {o : Oper} {a : Act} {w : World} (hg : o.guard = none) (t : TypeId) (x : Operand) (ho : o.op = .build t #[(0, x)]) (v u : Value) (hx : a.eval x = v) (hrun : (Instr.build t #[(0, v)]).run P w = .ok u w)
    (h : wpList P ops Q rest (a.put o.dst u) w) : wpList P ops Q (o :: rest) a w := wpList_plain hg fun _ hK => wp_build_one t x ho v u hx hrun (hK _ _ h)

theorem wpList_store_to {P : Program} {ops : Array Oper} {rest : List Oper} {op : Oper} {a : Act} {w w1 : World} {Q : Exit → Act → World → Prop} (hgd : op.guard = none) (ty : TypeId) (x y : Operand) (ho : op.op = .store ty x y)
    (b o : Nat) (cells : Array Value) (hx : a.eval x = .pointer (some ⟨b, o, none⟩)) (hy : a.eval y = .agg cells)
    (ht : w.there b o cells.size) (hi : (P.info? ty).map (·.size) = some cells.size) (h1 : cells.all (·.oneCell') = true) (hw : w.setCells b o cells.toList = w1)
    (h : wpList P ops Q rest (a.put op.dst undef) w1) : wpList P ops Q (op :: rest) a w := wpList_store_mid hgd ty x y ho b o cells hx hy ht hi h1 (hw ▸ h)

/-- a text, and noughts behind it -/
def pad (t : ByteArray) (h : t.size ≤ 256) : Blk := ⟨t.data.toList ++ List.replicate (256 - t.size) 0, by
  have : t.data.toList.length = t.size := by rw [Array.length_toList]; rfl
  rw [List.length_append, List.length_replicate, this]; omega⟩
def zeroB : Blk := ⟨List.replicate 256 0, List.length_replicate⟩
theorem zeroCW : (Value.int .i64 0 :: List.replicate 256 (Value.int .u8 0)) = cellsW (0, zeroB) := by
  unfold cellsW bc zeroB
  simp only
  rw [List.map_replicate]
  rfl
theorem copy_pad (bit : Int) (t : ByteArray) (ht : t.size ≤ 256) {w : World} {g : Nat} (h : BlkAt w g (cellsW (bit, zeroB))) : BlkAt (w.setCells g 1 (bc t.data.toList)) g (cellsW (bit, pad t ht)) := by
  have hn0 : t.data.toList.length = t.size := by rw [Array.length_toList]; rfl
  have h2 := blk_setCells h 1 (bc t.data.toList) (by rw [bc_len, cellsW_len, hn0]; omega)
  have e : (cellsW (bit, zeroB)).take 1 ++ (bc t.data.toList ++ (cellsW (bit, zeroB)).drop (1 + (bc t.data.toList).length)) = cellsW (bit, pad t ht) := by
    rw [bc_len, hn0, Nat.add_comm]
    show [Value.int .i64 bit] ++ (bc t.data.toList ++ (bc (List.replicate 256 0)).drop t.size) = Value.int .i64 bit :: bc (t.data.toList ++ List.replicate (256 - t.size) 0)
    unfold bc
    rw [← List.map_drop, List.drop_replicate, List.map_append]
    rfl
  rw [e] at h2
  exact h2
end Go.Proofs.YteaanpdckkmjoaaGreatDoor

/- The contracts of disk.New at four sectors, and of LightActs, over this seat's translation. Conditions: as named. -/
import Derived.Test.YtjiopjdbifcfkacDisk6
namespace Go.Proofs.Ytjiopjdbifcfkac
open Go.ChangeShapes Go.WideShapes Go.ChangeAt Go.RowKit
set_option linter.unusedVariables false
set_option linter.unusedSimpArgs false

theorem blk_of_owns {w : World} {B n size g cap : Nat} {e : TypeId} {xs : List Value} (h : w.ownsRow B e size (.slice (some ⟨g, 0, none⟩) n cap) n xs) (hn : 0 < n) : BlkAt w g xs := by
  have h0 := h
  obtain ⟨h1, h2⟩ := h
  rcases h2 with ⟨e1, -⟩ | ⟨g', cap', cur, e1, hb, hg, hle, hm, hs, ht⟩
  · cases e1
  · simp only [Value.slice.injEq, Option.some.injEq, Addr.mk.injEq] at e1
    obtain ⟨⟨rfl, -⟩, -, rfl⟩ := e1
    refine ⟨fun j hj => ?_, fun o => frozen_of_row w g o cur e hg, (Array.getElem?_eq_some_iff.1 hg).1⟩
    rw [h1] at hj
    exact World.ownsRow.cellAt h0 j hj
def sec0 : Sec := ⟨zeroB, [], .slice none 0 0⟩
def zeroS : List Value := List.replicate 256 (Value.int .u8 0) ++ [.slice none 0 0]
theorem cells_sec0 : cellsS sec0 = zeroS := by
  unfold cellsS sec0 zeroS bc zeroB
  simp only
  rw [List.map_replicate]
  rfl
set_option maxRecDepth 100000 in
theorem infoS : (Try.prog.info? 65).map (fun i => (i.zero, i.size, i.bytes)) = some (some (.agg zeroS.toArray), 257, 280) := by kernel_rfl
theorem zeroS_len : zeroS.length = 257 := by
  unfold zeroS
  rw [List.length_append, List.length_replicate]
  rfl
theorem made4 : (madeCells zeroS.toArray 1028).toList = zeroS ++ (zeroS ++ (zeroS ++ (zeroS ++ []))) := by
  have hl := zeroS_len
  generalize zeroS = z at *
  apply List.ext_getElem
  · simp [madeCells, hl]
  · intro j h1 h2
    have hj : j < 1028 := by simpa [madeCells] using h1
    have e : (madeCells z.toArray 1028).toList[j] = z[j % 257]'(by rw [hl]; exact Nat.mod_lt _ (by omega)) := by
      have hm : j % 257 < z.length := by rw [hl]; exact Nat.mod_lt _ (by omega)
      simp [madeCells, hl]
      rw [List.getElem?_eq_getElem hm]
      rfl
    rw [e]
    apply Option.some.inj
    rw [← List.getElem?_eq_getElem, ← List.getElem?_eq_getElem]
    by_cases a1 : j < 257
    · rw [List.getElem?_append_left (by omega), Nat.mod_eq_of_lt a1]
    · rw [List.getElem?_append_right (by omega), hl]
      by_cases a2 : j - 257 < 257
      · rw [List.getElem?_append_left (by omega), show j % 257 = j - 257 from by omega]
      · rw [List.getElem?_append_right (by omega), hl]
        by_cases a3 : j - 257 - 257 < 257
        · rw [List.getElem?_append_left (by omega), show j % 257 = j - 257 - 257 from by omega]
        · rw [List.getElem?_append_right (by omega), hl, List.getElem?_append_left (by omega), show j % 257 = j - 257 - 257 - 257 from by omega]

set_option maxRecDepth 100000 in
set_option maxHeartbeats 1000000 in
theorem new4 (B : Nat) (w : World) (hB : B ≤ w.heap.size) :
    Calls Try.prog 7 #[.int .i64 4] w fun e w' => ∃ gd gs, e = .returned (.tuple #[.pointer (some ⟨gd, 0, none⟩), .nilIface]) ∧ Below w.heap.size w w' ∧ DskR w' B gd gs 0 (-1) false [sec0, sec0, sec0, sec0] := by
  obtain ⟨i0, hi, hz0, hz1, hz2⟩ := info_parts infoS
  go_enter Try.func7, Try.ntmps7
  go_wp2_with (at_make; go_must (refine wpList_make_full _ rfl _ _ 55 rfl w.heap.size 65 i0 _ 257 Try.underlying55 hi hz0 hz1 .i64 .i64 _ _ 4 rfl rfl rfl rfl (by rw [hz2]; omega) (by show _ ≤ 2 ^ 63 - 1; omega) (Nat.le_refl _) ?_))
  intro w1 ho hg
  rw [made4] at ho
  have BS := blk_of_owns ho (by omega)
  have B1 : Below w.heap.size w w1 := (Below.refl w.heap.size w).grown hg (Nat.le_refl _) (fun k hk => by cases hk)
  have hlt := BS.lt
  have BB := hidE (B1.alloc B1.size (.cells #[.slice (some ⟨w.heap.size, 0, none⟩) 4 4, .int .i64 0, .int .i64 (-1), .bool false] 57))
  have BD := hidE (blk_alloc w1 [.slice (some ⟨w.heap.size, 0, none⟩) 4 4, .int .i64 0, .int .i64 (-1), .bool false] 57)
  have BS2 := hidE (blk_below BS (below_alloc w1 (.cells #[.slice (some ⟨w.heap.size, 0, none⟩) 4 4, .int .i64 0, .int .i64 (-1), .bool false] 57)) BS.lt)
  clear ho hg BS B1
  go_wp2_with fail
  go_ret2
  refine ⟨w1.heap.size, w.heap.size, rfl, BB.out, ⟨BD.out, ?_, fun s hs => ?_, fun s hs p hp => ?_, fun s hs => ?_, fun i j hi hj hij k hk => ?_, fun s hs => ?_, by omega, by omega, hB⟩⟩
  · have e : rowOf cellsS [sec0, sec0, sec0, sec0] = zeroS ++ (zeroS ++ (zeroS ++ (zeroS ++ []))) := by
      rw [rowOf_cons, rowOf_cons, rowOf_cons, rowOf_cons, cells_sec0]
      rfl
    rw [e]
    exact BS2.out
  all_goals
    first
    | (have e : s = sec0 := by simpa using hs)
    | skip
  · subst e
    exact World.ownsRow_nil _ _ _ _
  · subst e
    simp [sec0] at hp
  · subst e
    simp [sec0]
  · have hw : ∀ i (hi : i < [sec0, sec0, sec0, sec0].length), [sec0, sec0, sec0, sec0][i] = sec0 := fun i hi => by
      have h4 : i = 0 ∨ i = 1 ∨ i = 2 ∨ i = 3 := by simp at hi; omega
      rcases h4 with rfl | rfl | rfl | rfl <;> rfl
    rw [hw i hi] at hk
    simp [sec0, Value.ownBlock] at hk
  · subst e
    simp [sec0, Value.ownBlock]

/-- an act -/
structure Act1 where
  kind : ByteArray
  a : Int
  s : ByteArray
  k : Int
def cellsAct (x : Act1) : List Value := [.string x.kind, .int .i64 x.a, .string x.s, .int .u64 x.k]
theorem cellsAct_len (x : Act1) : (cellsAct x).length = 4 := rfl
set_option maxRecDepth 100000 in
theorem light_any (l : List Act1) (most : Int) (v : Value) (w : World) (hr : RowG w v 4 l.length (rowOf cellsAct l)) (hl : l.length ≤ maxLen) (hs : ∀ x ∈ l, x.s.size ≤ maxLen) :
    Calls Try.prog 6 #[v, .int .i64 most] w fun e w' => (∃ b : Bool, e = .returned (.bool b) ∧ (b = true → (l.length : Int) ≤ most ∧ ∀ x ∈ l, x.s.size ≤ 3000)) ∧ Below w.heap.size w w' := by
  obtain ⟨ao, cap, rfl⟩ := rowG_shape hr
  have HR := hidE hr
  have HS := hidE hs
  clear hr hs
  unfold maxLen at hl
  go_enter Try.func6, Try.ntmps6
  by_cases h1 : most < (l.length : Int)
  · have d1 : decide (most < (l.length : Int)) = true := by simp [h1]
    go_wp2_with fail
    go_ret
    exact ⟨⟨false, rfl, fun h => by cases h⟩, Below.refl _ _⟩
  have d1 : decide (most < (l.length : Int)) = false := by simp [h1]
  go_wp2_with fail
  clear d1
  go_loopw [5] (fun i wr => ∃ m : Nat, m ≤ l.length ∧ i = .int .i64 m ∧ Hid (∀ j (hj : j < l.length), j < m → l[j].s.size ≤ 3000) ∧ Hid (Below w.heap.size w wr)) (fun i _ => l.length - (intOf i).toNat)
  case atStart => exact ⟨0, Nat.zero_le _, rfl, fun j hj h => absurd h (by omega), Below.refl _ _⟩
  case round =>
    obtain ⟨m, hm, rfl, HM, HB⟩ := hrel
    by_cases hlt : m < l.length
    · obtain ⟨g, off, rfl, hcell, q1, q2, lg⟩ := rowOf_val cellsAct_len (rowG_below HR.out HB.out) m hlt
      have y2 : wr.cell? ⟨g, off + m * 4 + 2, none⟩ = some (.string l[m].s) := hcell 2 (by omega)
      have HSM := hidE (HS.out l[m] (List.getElem_mem hlt))
      have HLM : Hid (∀ j (hj : j < l.length), j < m + 1 → l[j].s.size ≤ 3000 ∨ j = m) := fun j hj h => by
        by_cases e : j = m
        · exact .inr e
        · exact .inl (HM.out j hj (by omega))
      have HLE : Hid (∀ z, l[m].s.size ≤ z → ∀ j (hj : j < l.length), j = m → l[j].s.size ≤ z) := fun z hz j hj e => by
        subst e
        exact hz
      generalize l[m].s = sm at *
      have hsm : sm.size ≤ 9223372036854775807 := HSM.out
      unfold maxLen at q2
      clear hcell
      by_cases h3 : 3000 < sm.size
      · have d3 : decide (3000 < (sm.size : Int)) = true := by simp; omega
        go_wp2_with fail
        go_ret
        exact ⟨⟨false, rfl, fun h => by cases h⟩, HB.out⟩
      · have d3 : decide (3000 < (sm.size : Int)) = false := by simp; omega
        have HM1 : Hid (∀ j (hj : j < l.length), j < m + 1 → l[j].s.size ≤ 3000) := fun j hj h => by
          rcases HLM.out j hj h with h9 | h9
          · exact h9
          · exact HLE.out 3000 (by omega) j hj h9
        go_wp2_with fail
        go_roundw
        case rel => exact ⟨m + 1, by omega, by go_num, HM1, HB⟩
        case measure => simp [intOf]; omega
    · have hme : m = l.length := by omega
      subst hme
      go_wp2_with fail
      go_ret
      exact ⟨⟨true, rfl, fun _ => ⟨by omega, fun x hx => by
        obtain ⟨j, hj, rfl⟩ := List.mem_iff_getElem.1 hx
        exact HM.out j hj hj⟩⟩, HB.out⟩
end Go.Proofs.Ytjiopjdbifcfkac

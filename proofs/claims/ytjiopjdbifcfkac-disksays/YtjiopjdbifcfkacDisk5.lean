/- A disk in memory; the contracts of its settle, step, has and Sectors, over this seat's translation. Conditions: as named. -/
import Derived.Test.YtjiopjdbifcfkacDisk4
namespace Go.Proofs.Ytjiopjdbifcfkac
open Go.ChangeShapes Go.WideShapes Go.ChangeAt Go.RowKit
set_option linter.unusedVariables false
set_option linter.unusedSimpArgs false

/-- a disk: its variable gd, its sectors gs, and the writes of each sector in memory of their own -/
structure DskR (w : World) (B gd gs : Nat) (bit left : Int) (down : Bool) (ss : List Sec) : Prop where
  bd : BlkAt w gd [.slice (some ⟨gs, 0, none⟩) ss.length ss.length, .int .i64 bit, .int .i64 left, .bool down]
  bs : BlkAt w gs (rowOf cellsS ss)
  row : ∀ s ∈ ss, w.ownsRow B 74 257 s.wv s.ws.length (rowW s.ws)
  bits : ∀ s ∈ ss, ∀ p ∈ s.ws, 0 ≤ p.1 ∧ p.1 < bit
  len : ∀ s ∈ ss, s.ws.length ≤ 900
  sep : ∀ i j (hi : i < ss.length) (hj : j < ss.length), i ≠ j → ∀ k, ss[i].wv.ownBlock = some k → ss[j].wv.ownBlock ≠ some k
  own : ∀ s ∈ ss, s.wv.ownBlock ≠ some gs ∧ s.wv.ownBlock ≠ some gd
  ne : gd ≠ gs
  b1 : B ≤ gd
  b2 : B ≤ gs
def settleS (keep : Int) (s : Sec) : Sec := ⟨settleK keep s.kept s.ws, [], .slice none 0 0⟩
theorem row_split (ss : List Sec) (i : Nat) (h : i < ss.length) : rowOf cellsS ss = rowOf cellsS (ss.take i) ++ (cellsS ss[i] ++ rowOf cellsS (ss.drop (i + 1))) := by
  conv => lhs; rw [← List.take_append_drop i ss, List.drop_eq_getElem_cons h]
  rw [rowOf_app, rowOf_cons]
theorem pre_len (ss : List Sec) (i : Nat) (h : i ≤ ss.length) : (rowOf cellsS (ss.take i)).length = i * 257 := by
  rw [rowOf_len cellsS_len, List.length_take, Nat.min_eq_left h]

set_option maxRecDepth 100000 in
set_option maxHeartbeats 1000000 in
theorem settle_all (keep : Int) (hk : 0 ≤ keep ∧ keep ≤ 18446744073709551615) (B gd gs : Nat) (bit left : Int) (down : Bool) (ss : List Sec) (w : World) (h : DskR w B gd gs bit left down ss) (hl : ss.length ≤ 200) (hb : bit ≤ 64) :
    Calls Try.prog 27 #[.pointer (some ⟨gd, 0, none⟩), .int .u64 keep] w fun e w' => e = .returned (.tuple #[]) ∧ KeptB w w' (fun k => k = gd ∨ k = gs) ∧ DskR w' B gd gs 0 left down (ss.map (settleS keep)) := by
  have HD := hidE h
  have c0 : w.cell? ⟨gd, 0, none⟩ = some (.slice (some ⟨gs, 0, none⟩) ss.length ss.length) := h.bd.c 0 (by simp)
  have lgd := h.bd.lt
  have hne := h.ne
  clear h
  go_enter Try.func27, Try.ntmps27
  go_wp2_with fail
  go_loopw [10] (fun i wr => ∃ m : Nat, m ≤ ss.length ∧ i = .int .i64 m ∧ Hid (KeptB w wr (fun k => k = gs)) ∧ Hid (BlkAt wr gs (rowOf cellsS ((ss.take m).map (settleS keep)) ++ rowOf cellsS (ss.drop m)))) (fun i _ => ss.length - (intOf i).toNat)
  case atStart => exact ⟨0, Nat.zero_le _, rfl, keptB_of_below (Below.refl _ _), HD.out.bs⟩
  case round =>
    obtain ⟨m, hm, rfl, HK, HC⟩ := hrel
    have c1 : wr.cell? ⟨gd, 0, none⟩ = some (.slice (some ⟨gs, 0, none⟩) ss.length ss.length) := (kept_cell HK.out 0 lgd hne).trans c0
    by_cases hlt : m < ss.length
    · have hmem := List.getElem_mem hlt
      have eC : rowOf cellsS (ss.drop m) = cellsS ss[m] ++ rowOf cellsS (ss.drop (m + 1)) := by rw [List.drop_eq_getElem_cons hlt, rowOf_cons]
      have eP : (rowOf cellsS ((ss.take m).map (settleS keep))).length = m * 257 := by rw [rowOf_len cellsS_len, List.length_map, List.length_take, Nat.min_eq_left hm]
      have HC2 : BlkAt wr gs (rowOf cellsS ((ss.take m).map (settleS keep)) ++ (cellsS ss[m] ++ rowOf cellsS (ss.drop (m + 1)))) := by rw [← eC]; exact HC.out
      have hro := HD.out.row ss[m] hmem
      have hno := (HD.out.own ss[m] hmem).1
      have SC := scsettle_any keep ss[m] gs _ _ wr HC2 (rowG_of_owns (own_kept hro HK.out (fun k hk e => hno (by rw [hk, e])))) (by have := HD.out.len ss[m] hmem; omega) (fun p hp => by have := HD.out.bits ss[m] hmem p hp; omega) hk (fun g off c e => by
        intro e2
        apply hno
        rw [e, e2]
        rfl)
      rw [eP] at SC
      have SCH := hidE SC
      have eN : rowOf cellsS ((ss.take (m + 1)).map (settleS keep)) ++ rowOf cellsS (ss.drop (m + 1)) = rowOf cellsS ((ss.take m).map (settleS keep)) ++ (cellsS (settleS keep ss[m]) ++ rowOf cellsS (ss.drop (m + 1))) := by
        rw [List.take_add_one, List.getElem?_eq_getElem hlt, List.map_append, rowOf_app]
        simp only [Option.toList_some, List.map_cons, List.map_nil, rowOf_one, List.append_assoc]
      have EN := hidE eN
      clear SC HC2 eC eP hro hno eN HC hmem
      go_wp2_with fail
      refine SCH.out.mono ?_
      rintro e w1 ⟨rfl, hk1, hb1⟩
      have HK1 := hidE (keptB_trans HK.out hk1)
      have HC1 : Hid (BlkAt w1 gs (rowOf cellsS ((ss.take (m + 1)).map (settleS keep)) ++ rowOf cellsS (ss.drop (m + 1)))) := by
        show BlkAt _ _ _
        rw [EN.out]
        exact hb1
      clear hk1 hb1 SCH EN HK c1
      go_wp2_with fail
      go_roundw
      case rel => exact ⟨m + 1, by omega, by go_num, HK1, HC1⟩
      case measure => simp [intOf]; omega
    · have hme : m = ss.length := by omega
      subst hme
      rw [List.take_length, List.drop_length] at HC
      have HC1 : Hid (BlkAt wr gs (rowOf cellsS (ss.map (settleS keep)))) := by
        show BlkAt _ _ _
        have := HC.out
        simpa [rowOf] using this
      have BD := blk_kept HD.out.bd HK.out hne
      have c2 : wr.cell? ⟨gd, 1, none⟩ = some (.int .i64 bit) := BD.c 1 (by simp)
      have f2 := BD.fz 1
      have BD2 := hidE (blk_set BD 1 (.int .i64 0) (by simp))
      have HC2 := hidE (blk_far HC1.out (g' := gd) hne 1 (.int .i64 0))
      have KK := hidE (keptB_set (keptB_mono (bad' := fun k => k = gd ∨ k = gs) HK.out (fun k e => .inr e)) (.inl rfl) 1 (.int .i64 0))
      clear HC HC1 BD HK c1
      go_wp2_with fail
      refine ⟨rfl, _, by simp [results], rfl, KK.out, ?_⟩
      refine ⟨by simpa using BD2.out, HC2.out, fun s hs => ?_, fun s hs p hp => ?_, fun s hs => ?_, fun i j hi hj hij k hk => ?_, fun s hs => ?_, hne, HD.out.b1, HD.out.b2⟩
      · obtain ⟨q, hq, rfl⟩ := List.mem_map.1 hs
        exact World.ownsRow_nil _ _ _ _
      · obtain ⟨q, hq, rfl⟩ := List.mem_map.1 hs
        simp [settleS] at hp
      · obtain ⟨q, hq, rfl⟩ := List.mem_map.1 hs
        simp [settleS]
      · simp [settleS, Value.ownBlock] at hk
      · obtain ⟨q, hq, rfl⟩ := List.mem_map.1 hs
        simp [settleS, Value.ownBlock]

set_option maxRecDepth 100000 in
theorem step_up (B gd gs : Nat) (bit : Int) (ss : List Sec) (w : World) (h : DskR w B gd gs bit (-1) false ss) :
    Calls Try.prog 23 #[.pointer (some ⟨gd, 0, none⟩)] w fun e w' => e = .returned .nilIface ∧ Below w.heap.size w w' := by
  have c2 : w.cell? ⟨gd, 2, none⟩ = some (.int .i64 (-1)) := h.bd.c 2 (by simp)
  have c3 : w.cell? ⟨gd, 3, none⟩ = some (.bool false) := h.bd.c 3 (by simp)
  go_enter Try.func23, Try.ntmps23
  go_wp2_with fail
  go_ret
  exact ⟨rfl, Below.refl _ _⟩
set_option maxRecDepth 100000 in
theorem sectors_any (B gd gs : Nat) (bit left : Int) (down : Bool) (ss : List Sec) (w : World) (h : DskR w B gd gs bit left down ss) :
    Calls Try.prog 10 #[.pointer (some ⟨gd, 0, none⟩)] w fun e w' => e = .returned (.int .i64 (ss.length : Int)) ∧ Below w.heap.size w w' := by
  have c0 : w.cell? ⟨gd, 0, none⟩ = some (.slice (some ⟨gs, 0, none⟩) ss.length ss.length) := h.bd.c 0 (by simp)
  go_enter Try.func10, Try.ntmps10
  go_wp2_with fail
  go_ret
  exact ⟨rfl, Below.refl _ _⟩
set_option maxRecDepth 100000 in
theorem has_any (B gd gs : Nat) (bit left : Int) (down : Bool) (ss : List Sec) (at_ : Int) (w : World) (h : DskR w B gd gs bit left down ss) :
    Calls Try.prog 22 #[.pointer (some ⟨gd, 0, none⟩), .int .i64 at_] w fun e w' => e = .returned (.bool (decide (0 ≤ at_) && decide (at_ < (ss.length : Int)))) ∧ Below w.heap.size w w' := by
  have SE := hidE (sectors_any B gd gs bit left down ss w h)
  clear h
  go_enter Try.func22, Try.ntmps22
  by_cases h0 : 0 ≤ at_
  · have d0 : decide (0 ≤ at_) = true := by simp [h0]
    go_wp2_with fail
    refine SE.out.mono ?_
    rintro e w1 ⟨rfl, hb⟩
    have HB := hidE hb
    clear hb SE
    go_wp2_with fail
    go_ret
    exact ⟨by rw [d0]; rfl, HB.out⟩
  · have d0 : decide (0 ≤ at_) = false := by simp [h0]
    clear SE
    go_wp2_with fail
    go_ret
    exact ⟨rfl, Below.refl _ _⟩
end Go.Proofs.Ytjiopjdbifcfkac

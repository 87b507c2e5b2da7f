/- A disk in memory, whatever was done to it; the contracts of its settle, step, Arm, Down, has and Sectors, over this seat's translation. Conditions: as named. -/
import Derived.Test.YtjiopjdbifcfkacDisk5
namespace Go.Proofs.Ytjiopjdbifcfkac
open Go.ChangeShapes Go.WideShapes Go.ChangeAt Go.RowKit
set_option linter.unusedVariables false
set_option linter.unusedSimpArgs false

/-- a disk: its variable gd, its sectors gs, and the writes of each sector in memory of their own -/
structure DskG (w : World) (B gd gs : Nat) (bit left : Int) (down : Bool) (ss : List Sec) : Prop where
  bd : BlkAt w gd [.slice (some ⟨gs, 0, none⟩) ss.length ss.length, .int .i64 bit, .int .i64 left, .bool down]
  bs : BlkAt w gs (rowOf cellsS ss)
  row : ∀ s ∈ ss, w.ownsRow B 74 257 s.wv s.ws.length (rowW s.ws)
  bits : ∀ s ∈ ss, ∀ p ∈ s.ws, 0 ≤ p.1 ∧ p.1 < 64
  len : ∀ s ∈ ss, s.ws.length ≤ 900
  sep : ∀ i j (hi : i < ss.length) (hj : j < ss.length), i ≠ j → ∀ k, ss[i].wv.ownBlock = some k → ss[j].wv.ownBlock ≠ some k
  own : ∀ s ∈ ss, s.wv.ownBlock ≠ some gs ∧ s.wv.ownBlock ≠ some gd
  ne : gd ≠ gs
  b1 : B ≤ gd
  b2 : B ≤ gs
set_option maxRecDepth 100000 in
set_option maxHeartbeats 1000000 in
theorem settle_g (keep : Int) (hk : 0 ≤ keep ∧ keep ≤ 18446744073709551615) (B gd gs : Nat) (bit left : Int) (down : Bool) (ss : List Sec) (w : World) (h : DskG w B gd gs bit left down ss) (hl : ss.length ≤ 200) :
    Calls Try.prog 27 #[.pointer (some ⟨gd, 0, none⟩), .int .u64 keep] w fun e w' => e = .returned (.tuple #[]) ∧ KeptB w w' (fun k => k = gd ∨ k = gs) ∧ DskG w' B gd gs 0 left down (ss.map (settleS keep)) := by
  have HD := hidE h
  have c0 : w.cell? ⟨gd, 0, none⟩ = some (.slice (some ⟨gs, 0, none⟩) ss.length ss.length) := h.bd.c 0 (by simp)
  have lgd := h.bd.lt
  have hne := h.ne
  clear h
  go_enter Try.func27, Try.ntmps27
  go_wp2_with fail
  go_loopw [10] (fun i wr => ∃ m : Nat, m ≤ ss.length ∧ i = .int .i64 m ∧ Hid (KeptB w wr (fun k => k = gs)) ∧ Hid (BlkAt wr gs (rowOf cellsS ((ss.take m).map (settleS keep)) ++ rowOf cellsS (ss.drop m)))) (fun i _ => ss.length - (intOf i).toNat)
  case atStart => exact ⟨0, Nat.zero_le _, rfl, keptB_of_below (Below.refl _ _), HD.out.bs⟩
  case round =>
    obtain ⟨m, hm, rfl, HK, HC⟩ := hrel
    have c1 : wr.cell? ⟨gd, 0, none⟩ = some (.slice (some ⟨gs, 0, none⟩) ss.length ss.length) := (kept_cell HK.out 0 lgd hne).trans c0
    by_cases hlt : m < ss.length
    · have hmem := List.getElem_mem hlt
      have eC : rowOf cellsS (ss.drop m) = cellsS ss[m] ++ rowOf cellsS (ss.drop (m + 1)) := by rw [List.drop_eq_getElem_cons hlt, rowOf_cons]
      have eP : (rowOf cellsS ((ss.take m).map (settleS keep))).length = m * 257 := by rw [rowOf_len cellsS_len, List.length_map, List.length_take, Nat.min_eq_left hm]
      have HC2 : BlkAt wr gs (rowOf cellsS ((ss.take m).map (settleS keep)) ++ (cellsS ss[m] ++ rowOf cellsS (ss.drop (m + 1)))) := by rw [← eC]; exact HC.out
      have hro := HD.out.row ss[m] hmem
      have hno := (HD.out.own ss[m] hmem).1
      have SC := scsettle_any keep ss[m] gs _ _ wr HC2 (rowG_of_owns (own_kept hro HK.out (fun k hk e => hno (by rw [hk, e])))) (by have := HD.out.len ss[m] hmem; omega) (fun p hp => by have := HD.out.bits ss[m] hmem p hp; omega) hk (fun g off c e => by
        intro e2
        apply hno
        rw [e, e2]
        rfl)
      rw [eP] at SC
      have SCH := hidE SC
      have eN : rowOf cellsS ((ss.take (m + 1)).map (settleS keep)) ++ rowOf cellsS (ss.drop (m + 1)) = rowOf cellsS ((ss.take m).map (settleS keep)) ++ (cellsS (settleS keep ss[m]) ++ rowOf cellsS (ss.drop (m + 1))) := by
        rw [List.take_add_one, List.getElem?_eq_getElem hlt, List.map_append, rowOf_app]
        simp only [Option.toList_some, List.map_cons, List.map_nil, rowOf_one, List.append_assoc]
      have EN := hidE eN
      clear SC HC2 eC eP hro hno eN HC hmem
      go_wp2_with fail
      refine SCH.out.mono ?_
      rintro e w1 ⟨rfl, hk1, hb1⟩
      have HK1 := hidE (keptB_trans HK.out hk1)
      have HC1 : Hid (BlkAt w1 gs (rowOf cellsS ((ss.take (m + 1)).map (settleS keep)) ++ rowOf cellsS (ss.drop (m + 1)))) := by
        show BlkAt _ _ _
        rw [EN.out]
        exact hb1
      clear hk1 hb1 SCH EN HK c1
      go_wp2_with fail
      go_roundw
      case rel => exact ⟨m + 1, by omega, by go_num, HK1, HC1⟩
      case measure => simp [intOf]; omega
    · have hme : m = ss.length := by omega
      subst hme
      rw [List.take_length, List.drop_length] at HC
      have HC1 : Hid (BlkAt wr gs (rowOf cellsS (ss.map (settleS keep)))) := by
        show BlkAt _ _ _
        have := HC.out
        simpa [rowOf] using this
      have BD := blk_kept HD.out.bd HK.out hne
      have c2 : wr.cell? ⟨gd, 1, none⟩ = some (.int .i64 bit) := BD.c 1 (by simp)
      have f2 := BD.fz 1
      have BD2 := hidE (blk_set BD 1 (.int .i64 0) (by simp))
      have HC2 := hidE (blk_far HC1.out (g' := gd) hne 1 (.int .i64 0))
      have KK := hidE (keptB_set (keptB_mono (bad' := fun k => k = gd ∨ k = gs) HK.out (fun k e => .inr e)) (.inl rfl) 1 (.int .i64 0))
      clear HC HC1 BD HK c1
      go_wp2_with fail
      refine ⟨rfl, _, by simp [results], rfl, KK.out, ?_⟩
      refine ⟨by simpa using BD2.out, HC2.out, fun s hs => ?_, fun s hs p hp => ?_, fun s hs => ?_, fun i j hi hj hij k hk => ?_, fun s hs => ?_, hne, HD.out.b1, HD.out.b2⟩
      · obtain ⟨q, hq, rfl⟩ := List.mem_map.1 hs
        exact World.ownsRow_nil _ _ _ _
      · obtain ⟨q, hq, rfl⟩ := List.mem_map.1 hs
        simp [settleS] at hp
      · obtain ⟨q, hq, rfl⟩ := List.mem_map.1 hs
        simp [settleS]
      · simp [settleS, Value.ownBlock] at hk
      · obtain ⟨q, hq, rfl⟩ := List.mem_map.1 hs
        simp [settleS, Value.ownBlock]

theorem dskG_set {w : World} {B gd gs : Nat} {bit left : Int} {down : Bool} {ss : List Sec} (h : DskG w B gd gs bit left down ss) (o : Nat) (v : Value) (bit' left' : Int) (down' : Bool)
    (hb : BlkAt (w.setCell ⟨gd, o, none⟩ v) gd [.slice (some ⟨gs, 0, none⟩) ss.length ss.length, .int .i64 bit', .int .i64 left', .bool down']) : DskG (w.setCell ⟨gd, o, none⟩ v) B gd gs bit' left' down' ss := by
  have ks : KeptB w (w.setCell ⟨gd, o, none⟩ v) (fun k => k = gd) := keptB_set (keptB_of_below (bad := fun k => k = gd) (Below.refl w.heap.size w)) rfl o v
  exact ⟨hb, blk_kept h.bs ks (fun e => h.ne e.symm), fun s hs => own_kept (h.row s hs) ks (fun k hk e => (h.own s hs).2 (by rw [hk, e])), h.bits, h.len, h.sep, h.own, h.ne, h.b1, h.b2⟩
theorem keptB_gd {w : World} (gd o : Nat) (v : Value) : KeptB w (w.setCell ⟨gd, o, none⟩ v) (fun k => k = gd) := keptB_set (keptB_of_below (bad := fun k => k = gd) (Below.refl w.heap.size w)) rfl o v
/-- what is left of the steps behind one -/
def stepL (left : Int) : Int := if 0 < left then left - 1 else left
/-- what a step answers, and what is there behind it -/
def StepR (w' : World) (B gd gs : Nat) (bit left : Int) (down : Bool) (ss : List Sec) (e : Ending) : Prop :=
  ((down = true ∨ left = 0) ∧ e = .returned (.iface 54 (.int .i64 7)) ∧ DskG w' B gd gs bit left true ss) ∨ (down = false ∧ left ≠ 0 ∧ e = .returned .nilIface ∧ DskG w' B gd gs bit (stepL left) false ss)
set_option maxRecDepth 100000 in
theorem step_g (B gd gs : Nat) (bit left : Int) (down : Bool) (ss : List Sec) (w : World) (h : DskG w B gd gs bit left down ss) (hl : left ≤ 9223372036854775807) :
    Calls Try.prog 23 #[.pointer (some ⟨gd, 0, none⟩)] w fun e w' => KeptB w w' (fun k => k = gd) ∧ StepR w' B gd gs bit left down ss e := by
  have c2 : w.cell? ⟨gd, 2, none⟩ = some (.int .i64 left) := h.bd.c 2 (by simp)
  have c3 : w.cell? ⟨gd, 3, none⟩ = some (.bool down) := h.bd.c 3 (by simp)
  have f2 := h.bd.fz 2
  have f3 := h.bd.fz 3
  have HD := hidE h
  by_cases h0 : left = 0
  · have d0 : (left == 0) = true := by simp [h0]
    have B3 := blk_set h.bd 3 (.bool true) (by simp)
    have c4 : (w.setCell ⟨gd, 3, none⟩ (.bool true)).cell? ⟨gd, 3, none⟩ = some (.bool true) := B3.c 3 (by simp)
    have D3 := hidE (dskG_set h 3 (.bool true) bit left true (by simpa using B3))
    have K3 := hidE (keptB_gd (w := w) gd 3 (.bool true))
    have H0 := hidE h0
    clear h B3 h0
    go_enter Try.func23, Try.ntmps23
    go_wp2_with fail
    go_ret
    exact ⟨K3.out, .inl ⟨.inr H0.out, rfl, D3.out⟩⟩
  · have d0 : (left == 0) = false := by simp [h0]
    cases down with
    | true =>
      clear h
      go_enter Try.func23, Try.ntmps23
      go_wp2_with fail
      go_ret
      exact ⟨keptB_of_below (Below.refl _ _), .inl ⟨.inl rfl, rfl, HD.out⟩⟩
    | false =>
      by_cases hp : 0 < left
      · have d1 : decide (0 < left) = true := by simp [hp]
        have wl : IntKind.i64.wrap (left - 1) = left - 1 := wrapIn2 _ (by omega) (by omega)
        have B2 := blk_set h.bd 2 (.int .i64 (left - 1)) (by simp)
        have D2 := hidE (dskG_set h 2 (.int .i64 (left - 1)) bit (left - 1) false (by simpa using B2))
        have K2 := hidE (keptB_gd (w := w) gd 2 (.int .i64 (left - 1)))
        have SL : Hid (stepL left = left - 1) := by
          show _ = _
          unfold stepL
          rw [if_pos hp]
        have H0 := hidE h0
        clear h B2 h0
        go_enter Try.func23, Try.ntmps23
        go_wp2_with fail
        go_ret
        exact ⟨K2.out, .inr ⟨rfl, H0.out, rfl, by rw [SL.out]; exact D2.out⟩⟩
      · have d1 : decide (0 < left) = false := by simp [hp]
        have SL : Hid (stepL left = left) := by
          show _ = _
          unfold stepL
          rw [if_neg hp]
        have H0 := hidE h0
        clear h h0
        go_enter Try.func23, Try.ntmps23
        go_wp2_with fail
        go_ret
        exact ⟨keptB_of_below (Below.refl _ _), .inr ⟨rfl, H0.out, rfl, by rw [SL.out]; exact HD.out⟩⟩
set_option maxRecDepth 100000 in
theorem arm_g (n : Int) (B gd gs : Nat) (bit left : Int) (down : Bool) (ss : List Sec) (w : World) (h : DskG w B gd gs bit left down ss) :
    Calls Try.prog 17 #[.pointer (some ⟨gd, 0, none⟩), .int .i64 n] w fun e w' => e = .returned (.tuple #[]) ∧ KeptB w w' (fun k => k = gd) ∧ DskG w' B gd gs bit n down ss := by
  have c2 : w.cell? ⟨gd, 2, none⟩ = some (.int .i64 left) := h.bd.c 2 (by simp)
  have f2 := h.bd.fz 2
  have B2 := blk_set h.bd 2 (.int .i64 n) (by simp)
  have D2 := hidE (dskG_set h 2 (.int .i64 n) bit n down (by simpa using B2))
  have K2 := hidE (keptB_gd (w := w) gd 2 (.int .i64 n))
  clear h B2
  go_enter Try.func17, Try.ntmps17
  go_wp2_with fail
  exact ⟨rfl, _, by simp [results], rfl, K2.out, D2.out⟩
set_option maxRecDepth 100000 in
theorem down_g (B gd gs : Nat) (bit left : Int) (down : Bool) (ss : List Sec) (w : World) (h : DskG w B gd gs bit left down ss) :
    Calls Try.prog 20 #[.pointer (some ⟨gd, 0, none⟩)] w fun e w' => e = .returned (.bool down) ∧ Below w.heap.size w w' := by
  have c3 : w.cell? ⟨gd, 3, none⟩ = some (.bool down) := h.bd.c 3 (by simp)
  clear h
  go_enter Try.func20, Try.ntmps20
  go_wp2_with fail
  go_ret
  exact ⟨rfl, Below.refl _ _⟩
set_option maxRecDepth 100000 in
theorem sectors_g (B gd gs : Nat) (bit left : Int) (down : Bool) (ss : List Sec) (w : World) (h : DskG w B gd gs bit left down ss) :
    Calls Try.prog 10 #[.pointer (some ⟨gd, 0, none⟩)] w fun e w' => e = .returned (.int .i64 (ss.length : Int)) ∧ Below w.heap.size w w' := by
  have c0 : w.cell? ⟨gd, 0, none⟩ = some (.slice (some ⟨gs, 0, none⟩) ss.length ss.length) := h.bd.c 0 (by simp)
  go_enter Try.func10, Try.ntmps10
  go_wp2_with fail
  go_ret
  exact ⟨rfl, Below.refl _ _⟩
set_option maxRecDepth 100000 in
theorem has_g (B gd gs : Nat) (bit left : Int) (down : Bool) (ss : List Sec) (at_ : Int) (w : World) (h : DskG w B gd gs bit left down ss) :
    Calls Try.prog 22 #[.pointer (some ⟨gd, 0, none⟩), .int .i64 at_] w fun e w' => e = .returned (.bool (decide (0 ≤ at_) && decide (at_ < (ss.length : Int)))) ∧ Below w.heap.size w w' := by
  have SE := hidE (sectors_g B gd gs bit left down ss w h)
  clear h
  go_enter Try.func22, Try.ntmps22
  by_cases h0 : 0 ≤ at_
  · have d0 : decide (0 ≤ at_) = true := by simp [h0]
    go_wp2_with fail
    refine SE.out.mono ?_
    rintro e w1 ⟨rfl, hb⟩
    have HB := hidE hb
    clear hb SE
    go_wp2_with fail
    go_ret
    exact ⟨by rw [d0]; rfl, HB.out⟩
  · have d0 : decide (0 ≤ at_) = false := by simp [h0]
    clear SE
    go_wp2_with fail
    go_ret
    exact ⟨rfl, Below.refl _ _⟩
end Go.Proofs.Ytjiopjdbifcfkac

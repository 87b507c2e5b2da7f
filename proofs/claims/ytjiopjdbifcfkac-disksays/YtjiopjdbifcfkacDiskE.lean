/- The contracts of disk.New for every number, and of a disk's Read for every place, over this seat's translation. Conditions: as named. -/
import Derived.Test.YtjiopjdbifcfkacDiskD
import Derived.Test.YtjiopjdbifcfkacDisk7
namespace Go.Proofs.Ytjiopjdbifcfkac
open Go.ChangeShapes Go.WideShapes Go.ChangeAt Go.RowKit
set_option linter.unusedVariables false
set_option linter.unusedSimpArgs false

theorem madeN (n : Nat) : (madeCells zeroS.toArray (n * 257)).toList = rowOf cellsS (List.replicate n sec0) := by
  have hl := zeroS_len
  have hr : (rowOf cellsS (List.replicate n sec0)).length = n * 257 := by rw [rowOf_len cellsS_len, List.length_replicate]
  apply List.ext_getElem
  · rw [hr]
    simp [madeCells]
  · intro j h1 h2
    rw [hr] at h2
    have hm : j % 257 < zeroS.length := by rw [hl]; exact Nat.mod_lt _ (by omega)
    have hi : j / 257 < n := (Nat.div_lt_iff_lt_mul (by omega)).2 h2
    have e : (madeCells zeroS.toArray (n * 257)).toList[j] = zeroS[j % 257] := by
      simp [madeCells, hl]
      rw [List.getElem?_eq_getElem hm]
      rfl
    rw [e]
    apply Option.some.inj
    rw [← List.getElem?_eq_getElem, ← List.getElem?_eq_getElem]
    have e2 : j / 257 * 257 + j % 257 = j := by rw [Nat.mul_comm]; exact Nat.div_add_mod j 257
    have h9 := rowOf_at cellsS_len (List.replicate n sec0) (j / 257) (j % 257) sec0 (by rw [List.getElem?_replicate, if_pos hi]) (Nat.mod_lt _ (by omega))
    rw [e2] at h9
    rw [h9, cells_sec0]

set_option maxRecDepth 100000 in
set_option maxHeartbeats 1000000 in
theorem new_in (n : Nat) (B : Nat) (w : World) (hB : B ≤ w.heap.size) (h1 : 1 ≤ n) (h2 : n ≤ 160) :
    Calls Try.prog 7 #[.int .i64 (n : Int)] w fun e w' => ∃ gd gs, e = .returned (.tuple #[.pointer (some ⟨gd, 0, none⟩), .nilIface]) ∧ Below w.heap.size w w' ∧ DskG w' B gd gs 0 (-1) false (List.replicate n sec0) := by
  obtain ⟨i0, hi, hz0, hz1, hz2⟩ := info_parts infoS
  have d1 : decide ((n : Int) < 1) = false := by simp; omega
  have d2 : decide (160 < (n : Int)) = false := by simp; omega
  go_enter Try.func7, Try.ntmps7
  go_wp2_with (at_make; go_must (refine wpList_make_full _ rfl _ _ 55 rfl w.heap.size 65 i0 _ 257 Try.underlying55 hi hz0 hz1 .i64 .i64 _ _ n rfl rfl rfl rfl (by rw [hz2]; omega) (by show _ ≤ 2 ^ 63 - 1; omega) (Nat.le_refl _) ?_))
  intro w1 ho hg
  have ho2 : w1.ownsRow w.heap.size 65 257 (.slice (some ⟨w.heap.size, 0, none⟩) n n) n (madeCells zeroS.toArray (n * 257)).toList := ho
  rw [madeN] at ho2
  have BS := blk_of_owns ho2 (by omega)
  have B1 : Below w.heap.size w w1 := (Below.refl w.heap.size w).grown hg (Nat.le_refl _) (fun k hk => by cases hk)
  have hlt := BS.lt
  have BB := hidE (B1.alloc B1.size (.cells #[.slice (some ⟨w.heap.size, 0, none⟩) n n, .int .i64 0, .int .i64 (-1), .bool false] 57))
  have BD := hidE (blk_alloc w1 [.slice (some ⟨w.heap.size, 0, none⟩) n n, .int .i64 0, .int .i64 (-1), .bool false] 57)
  have BS2 := hidE (blk_below BS (below_alloc w1 (.cells #[.slice (some ⟨w.heap.size, 0, none⟩) n n, .int .i64 0, .int .i64 (-1), .bool false] 57)) BS.lt)
  clear ho ho2 hg BS B1 d1 d2
  go_wp2_with fail
  go_ret2
  refine ⟨w1.heap.size, w.heap.size, rfl, BB.out, ⟨by rw [List.length_replicate]; exact BD.out, BS2.out, fun s hs => ?_, fun s hs p hp => ?_, fun s hs => ?_, fun i j hi hj hij k hk => ?_, fun s hs => ?_, by omega, by omega, hB⟩⟩
  · rw [List.eq_of_mem_replicate hs]
    exact World.ownsRow_nil _ _ _ _
  · rw [List.eq_of_mem_replicate hs] at hp
    simp [sec0] at hp
  · rw [List.eq_of_mem_replicate hs]
    simp [sec0]
  · rw [List.getElem_replicate] at hk
    simp [sec0, Value.ownBlock] at hk
  · rw [List.eq_of_mem_replicate hs]
    simp [sec0, Value.ownBlock]
set_option maxRecDepth 100000 in
theorem new_out (n : Int) (w : World) (h : n < 1 ∨ 160 < n) :
    Calls Try.prog 7 #[.int .i64 n] w fun e w' => e = .returned (.tuple #[.pointer none, .iface 54 (.int .i64 1)]) ∧ Below w.heap.size w w' := by
  by_cases h1 : n < 1
  · have d1 : decide (n < 1) = true := by simp [h1]
    go_enter Try.func7, Try.ntmps7
    go_wp2_with fail
    go_ret2
    exact ⟨rfl, Below.refl _ _⟩
  · have d1 : decide (n < 1) = false := by simp [h1]
    have d2 : decide (160 < n) = true := by simp; omega
    go_enter Try.func7, Try.ntmps7
    go_wp2_with fail
    go_ret2
    exact ⟨rfl, Below.refl _ _⟩

set_option maxRecDepth 100000 in
theorem read_down (at_ : Int) (B gd gs : Nat) (bit left : Int) (ss : List Sec) (w : World) (h : DskG w B gd gs bit left true ss) :
    Calls Try.prog 13 #[.pointer (some ⟨gd, 0, none⟩), .int .i64 at_] w fun e w' => e = .returned (.tuple #[.string ⟨#[]⟩, .iface 54 (.int .i64 7)]) ∧ Below w.heap.size w w' := by
  have c3 : w.cell? ⟨gd, 3, none⟩ = some (.bool true) := h.bd.c 3 (by simp)
  clear h
  go_enter Try.func13, Try.ntmps13
  go_wp2_with fail
  go_ret2
  exact ⟨rfl, Below.refl _ _⟩
set_option maxRecDepth 100000 in
theorem read_out (at_ : Int) (B gd gs : Nat) (bit left : Int) (ss : List Sec) (w : World) (h : DskG w B gd gs bit left false ss) (hout : ¬ (0 ≤ at_ ∧ at_ < (ss.length : Int))) :
    Calls Try.prog 13 #[.pointer (some ⟨gd, 0, none⟩), .int .i64 at_] w fun e w' => e = .returned (.tuple #[.string ⟨#[]⟩, .iface 54 (.int .i64 1)]) ∧ Below w.heap.size w w' := by
  have HA := hidE (has_g B gd gs bit left false ss at_ w h)
  have c3 : w.cell? ⟨gd, 3, none⟩ = some (.bool false) := h.bd.c 3 (by simp)
  clear h
  go_enter Try.func13, Try.ntmps13
  go_wp2_with fail
  refine HA.out.mono ?_
  rintro e w1 ⟨rfl, hb⟩
  have HB := hidE hb
  have dn : (decide (0 ≤ at_) && decide (at_ < (ss.length : Int))) = false := by
    simp only [Bool.and_eq_false_iff, decide_eq_false_iff_not]
    omega
  rw [dn]
  clear hb dn HA c3
  go_wp2_with fail
  go_ret2
  exact ⟨rfl, HB.out⟩
end Go.Proofs.Ytjiopjdbifcfkac

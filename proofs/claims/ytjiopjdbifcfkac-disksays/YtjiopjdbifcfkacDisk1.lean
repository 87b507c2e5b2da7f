/- The contracts of slices.IndexFunc and slices.DeleteFunc at the closure of a sector's write, where none is found, over this seat's translation. Conditions: as named. -/
import Derived.Test.YtjiopjdbifcfkacDisk0
namespace Go.Proofs.Ytjiopjdbifcfkac
open Go.ChangeShapes Go.WideShapes Go.ChangeAt Go.RowKit
set_option linter.unusedVariables false
set_option linter.unusedSimpArgs false

set_option maxRecDepth 100000 in
theorem scw1_any (p : Wr) (bit : Int) (gb : Nat) (w : World) (hb : BlkAt w gb [.int .i64 bit]) :
    Calls Try.prog 29 #[.agg (cellsW p).toArray, .pointer (some ⟨gb, 0, none⟩)] w fun e w' => e = .returned (.bool (p.1 == bit)) ∧ Below w.heap.size w w' := by
  have BA := hidE (below_alloc w (.cells (cellsW p).toArray 74))
  have c0 : (w.alloc (.cells (cellsW p).toArray 74)).cell? ⟨w.heap.size, 0, none⟩ = some (.int .i64 p.1) := by simp [cellsW]
  have c1 : (w.alloc (.cells (cellsW p).toArray 74)).cell? ⟨gb, 0, none⟩ = some (.int .i64 bit) := (BA.out.cell (p := ⟨gb, 0, none⟩) hb.lt).trans (hb.c 0 (by simp))
  have hsz : (cellsW p).toArray.size = 257 := by simp [cellsW_len p]
  generalize hcw : (cellsW p).toArray = cw at *
  go_enter Try.func29, Try.ntmps29
  go_wp2_with fail
  go_ret
  exact ⟨rfl, BA.out⟩

set_option maxRecDepth 100000 in
theorem index_none (ws : List Wr) (bit : Int) (gb cap : Nat) (ao : Option Addr) (w : World) (hl : ws.length ≤ 1000) (hr : RowG w (.slice ao ws.length cap) 257 ws.length (rowW ws)) (hb : BlkAt w gb [.int .i64 bit]) (hno : ∀ p ∈ ws, p.1 ≠ bit) :
    Calls Try.prog 31 #[.slice ao ws.length cap, .func (.func 29) #[] #[.pointer (some ⟨gb, 0, none⟩)]] w fun e w' => e = .returned (.int .i64 (-1)) ∧ Below w.heap.size w w' := by
  have HR := hidE hr
  have HBB := hidE hb
  have HN := hidE hno
  clear hr hb hno
  go_enter Try.func31, Try.ntmps31
  go_wp2_with fail
  go_loopw [8] (fun i wr => ∃ m : Nat, m ≤ ws.length ∧ i = .int .i64 m ∧ Hid (Below w.heap.size w wr)) (fun i _ => ws.length - (intOf i).toNat)
  case atStart => exact ⟨0, Nat.zero_le _, rfl, Below.refl _ _⟩
  case round =>
    obtain ⟨m, hm, rfl, HB⟩ := hrel
    by_cases hlt : m < ws.length
    · obtain ⟨g, off, rfl, hcell, q1, q2, lg⟩ := rowOf_val cellsW_len (rowG_below HR.out HB.out) m hlt
      have RG : wr.rangeAt g (off + m * 257) (cellsW ws[m]) := fun j v hv => by
        rw [Nat.add_assoc, hcell j (by have := (List.getElem?_eq_some_iff.1 hv).1; rw [cellsW_len] at this; exact this)]
        exact hv
      have hi9 : (Try.prog.info? 74).map (·.size) = some (cellsW ws[m]).length := by rw [cellsW_len]; exact sizeW
      have RGH := hidE RG
      have HI9 := hidE hi9
      have hne : (ws[m].1 == bit) = false := by simp [HN.out ws[m] (List.getElem_mem hlt)]
      have SC := hidE (scw1_any ws[m] bit gb wr (blk_below HBB.out HB.out HBB.out.lt))
      rw [hne] at SC
      generalize cellsW ws[m] = cw at *
      unfold maxLen at q2
      clear hcell hne RG hi9
      go_wp2_with (refine wpList_load_mid rfl 74 _ rfl g (off + m * 257) rfl cw _ RGH.out Try.underlying74 rfl HI9.out ?_)
      refine SC.out.mono ?_
      rintro e w1 ⟨rfl, hb⟩
      have HB1 := nxt HB hb
      clear hb RGH HI9 SC
      go_wp2_with fail
      go_roundw
      case rel => exact ⟨m + 1, by omega, by go_num, HB1⟩
      case measure => simp [intOf]; omega
    · have hme : m = ws.length := by omega
      subst hme
      go_wp2_with fail
      go_ret
      exact ⟨rfl, HB.out⟩
set_option maxRecDepth 100000 in
theorem delete_none (ws : List Wr) (bit : Int) (gb cap : Nat) (ao : Option Addr) (w : World) (hl : ws.length ≤ 1000) (hr : RowG w (.slice ao ws.length cap) 257 ws.length (rowW ws)) (hb : BlkAt w gb [.int .i64 bit]) (hno : ∀ p ∈ ws, p.1 ≠ bit) :
    Calls Try.prog 28 #[.slice ao ws.length cap, .func (.func 29) #[] #[.pointer (some ⟨gb, 0, none⟩)]] w fun e w' => e = .returned (.slice ao ws.length cap) ∧ Below w.heap.size w w' := by
  have IX := hidE (index_none ws bit gb cap ao w hl hr hb hno)
  clear hr hb hno
  go_enter Try.func28, Try.ntmps28
  go_wp2_with fail
  refine IX.out.mono ?_
  rintro e w1 ⟨rfl, hb⟩
  have HB := hidE hb
  clear hb IX
  go_wp2_with fail
  go_ret
  exact ⟨rfl, HB.out⟩
end Go.Proofs.Ytjiopjdbifcfkac

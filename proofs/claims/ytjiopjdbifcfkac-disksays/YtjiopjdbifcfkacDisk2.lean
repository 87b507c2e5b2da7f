/- The contract of a sector's text, over this seat's translation. Conditions: as named. -/
import Derived.Test.YtjiopjdbifcfkacDisk1
namespace Go.Proofs.Ytjiopjdbifcfkac
open Go.ChangeShapes Go.WideShapes Go.ChangeAt Go.RowKit
set_option linter.unusedVariables false
set_option linter.unusedSimpArgs false

/-- a sector: what is kept, what was written since, and where that lies -/
structure Sec where
  kept : Blk
  ws : List Wr
  wv : Value
def cellsS (s : Sec) : List Value := bc s.kept.1 ++ [s.wv]
theorem cellsS_len (s : Sec) : (cellsS s).length = 257 := by simp [cellsS, bc_len, s.kept.2]
/-- a sector as it is read -/
def textS (s : Sec) : Blk := (s.ws.getLast?.map (·.2)).getD s.kept
def strB (b : Blk) : Value := .string ⟨b.1.toArray⟩
theorem bc_at (d : List UInt8) (j : Nat) (hj : j < d.length) : (bc d)[j]? = some (.int .u8 (d[j].toNat : Int)) := by simp [bc, hj]
theorem cellsS_kept (s : Sec) (j : Nat) (hj : j < 256) : (cellsS s)[j]? = (bc s.kept.1)[j]? := by
  unfold cellsS
  rw [List.getElem?_append_left (by rw [bc_len, s.kept.2]; exact hj)]
theorem cellsS_wv (s : Sec) : (cellsS s)[256]? = some s.wv := by
  unfold cellsS
  rw [List.getElem?_append_right (by rw [bc_len, s.kept.2]; exact Nat.le_refl _), bc_len, s.kept.2]
  rfl
theorem conv_at {w : World} {g o : Nat} (b : Blk) (h : ∀ j, j < 256 → w.cell? ⟨g, o + j, none⟩ = (bc b.1)[j]?) : (convert 71 9 (.slice (some ⟨g, o, none⟩) 256 256)).run Try.prog w = .ok (strB b) w := by
  have := run_convert_bytes_back (P := Try.prog) w 71 9 5 ⟨g, o, none⟩ 256 b.1 Try.underlying71 Try.underlying5 Try.underlying9 (fun j hj => by
    rw [add_at, h j (by rw [← b.2]; exact hj), bc_at])
  rw [b.2] at this
  exact this

set_option maxRecDepth 100000 in
theorem text_any (s : Sec) (gs o : Nat) (w : World) (hr : ∀ j, j < 257 → w.cell? ⟨gs, o + j, none⟩ = (cellsS s)[j]?) (hg : gs < w.heap.size) (hw : RowG w s.wv 257 s.ws.length (rowW s.ws)) (hl : s.ws.length ≤ 1000) :
    Calls Try.prog 26 #[.pointer (some ⟨gs, o, none⟩)] w fun e w' => e = .returned (strB (textS s)) ∧ Below w.heap.size w w' := by
  obtain ⟨kept, ws, wv⟩ := s
  obtain ⟨ao, cap, hwv⟩ := rowG_shape hw
  simp only at hwv hw hl
  subst hwv
  have cv : w.cell? ⟨gs, o + 256, none⟩ = some (.slice ao ws.length cap) := by rw [hr 256 (by omega), cellsS_wv]
  by_cases h0 : 0 < ws.length
  · obtain ⟨m, hm⟩ : ∃ m, ws.length = m + 1 := ⟨ws.length - 1, by omega⟩
    have hlt : m < ws.length := by omega
    obtain ⟨g, off, rfl, hcell, q1, q2, lg⟩ := rowOf_val cellsW_len hw m hlt
    have hT : textS ⟨kept, ws, .slice (some ⟨g, off, none⟩) ws.length cap⟩ = ws[m].2 := by
      unfold textS
      simp only [List.getLast?_eq_getElem?, hm, Nat.add_sub_cancel, List.getElem?_eq_getElem hlt, Option.map_some, Option.getD_some]
    have CV := conv_at (w := w) (g := g) (o := off + m * 257 + 1) ws[m].2 (fun j hj => by
      rw [show off + m * 257 + 1 + j = off + (m * 257 + (j + 1)) from by omega, hcell (j + 1) (by omega)]
      rfl)
    rw [hT]
    generalize strB ws[m].2 = tx at *
    rw [hm] at cv q1
    clear hT hw hr hcell h0 hlt
    unfold maxLen at q2
    rw [hm] at hl
    clear hm
    go_enter Try.func26, Try.ntmps26
    go_wp2_with fail
    go_ret
    exact ⟨rfl, Below.refl _ _⟩
  · have hn : ws = [] := List.length_eq_zero_iff.1 (by omega)
    subst hn
    have CV := conv_at (w := w) (g := gs) (o := o) kept (fun j hj => by rw [hr j (by omega), cellsS_kept _ j hj])
    have hT : textS ⟨kept, [], .slice ao 0 cap⟩ = kept := rfl
    have hT2 : textS ⟨kept, [], .slice ao ([] : List Wr).length cap⟩ = kept := rfl
    rw [hT2]
    simp only [List.length_nil] at cv
    generalize strB kept = tx at *
    clear hT hT2 hw hr h0
    go_enter Try.func26, Try.ntmps26
    go_wp2_with fail
    go_ret
    exact ⟨rfl, Below.refl _ _⟩
end Go.Proofs.Ytjiopjdbifcfkac

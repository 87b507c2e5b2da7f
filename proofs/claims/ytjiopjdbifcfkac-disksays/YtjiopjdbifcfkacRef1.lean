/- The document's disk in memory; the contracts of noughts and of its step and Read, over this seat's translation. Conditions: as named. -/
import Derived.Test.YtjiopjdbifcfkacDiskE
namespace Go.Proofs.Ytjiopjdbifcfkac
open Go.ChangeShapes Go.WideShapes Go.ChangeAt Go.RowKit
set_option linter.unusedVariables false
set_option linter.unusedSimpArgs false

/-- so many noughts, as a text -/
def noughtT (n : Nat) : ByteArray := ⟨(List.replicate n (0 : UInt8)).toArray⟩
set_option maxRecDepth 100000 in
theorem infoU8 : (Try.prog.info? 5).map (fun i => (i.zero, i.size, i.bytes)) = some (some (.int .u8 0), 1, 1) := by kernel_rfl
theorem madeU8 (n : Nat) : (madeCells #[Value.int .u8 0] (n * 1)).toList = bc (List.replicate n 0) := by
  unfold bc
  rw [List.map_replicate, Nat.mul_one]
  apply List.ext_getElem
  · simp [madeCells]
  · intro j h1 h2
    simp [madeCells, Nat.mod_one]
set_option maxRecDepth 100000 in
theorem noughts_any (n : Nat) (w : World) (hn : n ≤ 256) : Calls Try.prog 21 #[.int .i64 (n : Int)] w fun e w' => e = .returned (.string (noughtT n)) ∧ Below w.heap.size w w' := by
  obtain ⟨i0, hi, hz0, hz1, hz2⟩ := info_parts infoU8
  go_enter Try.func21, Try.ntmps21
  go_wp2_with (at_make; go_must (refine wpList_make_full _ rfl _ _ 71 rfl w.heap.size 5 i0 (.int .u8 0) 1 Try.underlying71 hi hz0 hz1 .i64 .i64 _ _ n rfl rfl rfl rfl (by rw [hz2]; omega) (by show _ ≤ 2 ^ 63 - 1; omega) (Nat.le_refl _) ?_))
  intro w1 ho hg
  have ho2 : w1.ownsRow w.heap.size 5 1 (.slice (some ⟨w.heap.size, 0, none⟩) n n) n (madeCells #[Value.int .u8 0] (n * 1)).toList := by simpa using ho
  rw [madeU8] at ho2
  have HB : Hid (Below w.heap.size w w1) := (Below.refl w.heap.size w).grown hg (Nat.le_refl _) (fun k hk => by cases hk)
  have CV := run_convert_bytes_back (P := Try.prog) w1 71 9 5 ⟨w.heap.size, 0, none⟩ n (List.replicate n 0) Try.underlying71 Try.underlying5 Try.underlying9 (fun j hj => by
    rw [List.length_replicate] at hj
    rw [add_at, Nat.zero_add, World.ownsRow.cellAt ho2 j (by omega), bc_at _ j (by rw [List.length_replicate]; exact hj)])
  rw [List.length_replicate] at CV
  have CV2 : (convert 71 9 (.slice (some ⟨w.heap.size, 0, none⟩) n n)).run Try.prog w1 = .ok (.string (noughtT n)) w1 := CV
  clear ho ho2 hg CV
  go_wp2_with fail
  go_ret
  exact ⟨rfl, HB.out⟩

/-- a write that waits -/
abbrev Tn := Int × ByteArray
def cellsT (p : Tn) : List Value := [.int .i64 p.1, .string p.2]
theorem cellsT_len (p : Tn) : (cellsT p).length = 2 := rfl
/-- the document's disk -/
structure RefD (w : World) (B gr : Nat) (kl nl : List ByteArray) (tl : List Tn) (fuse : Int) (down : Bool) (kv nv tv : Value) : Prop where
  bd : BlkAt w gr [kv, nv, tv, .int .i64 fuse, .bool down]
  kr : w.ownsRow B 9 1 kv kl.length (kl.map Value.string)
  nr : w.ownsRow B 9 1 nv nl.length (nl.map Value.string)
  tr : w.ownsRow B 68 2 tv tl.length (rowOf cellsT tl)
  s1 : ∀ k, kv.ownBlock = some k → nv.ownBlock ≠ some k ∧ tv.ownBlock ≠ some k ∧ k ≠ gr
  s2 : ∀ k, nv.ownBlock = some k → tv.ownBlock ≠ some k ∧ k ≠ gr
  s3 : ∀ k, tv.ownBlock = some k → k ≠ gr
  b1 : B ≤ gr
theorem refD_below {w w' : World} {B gr : Nat} {kl nl : List ByteArray} {tl : List Tn} {fuse : Int} {down : Bool} {kv nv tv : Value} (h : RefD w B gr kl nl tl fuse down kv nv tv) (hb : Below w.heap.size w w') : RefD w' B gr kl nl tl fuse down kv nv tv :=
  ⟨blk_below h.bd hb h.bd.lt, own_keep h.kr hb (Nat.le_refl _), own_keep h.nr hb (Nat.le_refl _), own_keep h.tr hb (Nat.le_refl _), h.s1, h.s2, h.s3, h.b1⟩
/-- stores into its own variable -/
theorem refD_set {w w' : World} {B gr : Nat} {kl nl : List ByteArray} {tl : List Tn} {fuse fuse' : Int} {down down' : Bool} {kv nv tv : Value} (h : RefD w B gr kl nl tl fuse down kv nv tv) (ks : KeptB w w' (fun k => k = gr))
    (hb : BlkAt w' gr [kv, nv, tv, .int .i64 fuse', .bool down']) : RefD w' B gr kl nl tl fuse' down' kv nv tv :=
  ⟨hb, own_kept h.kr ks (fun k hk => (h.s1 k hk).2.2), own_kept h.nr ks (fun k hk => (h.s2 k hk).2), own_kept h.tr ks (fun k hk => h.s3 k hk), h.s1, h.s2, h.s3, h.b1⟩
/-- what the document's step answers -/
def RStepR (w' : World) (B gr : Nat) (kl nl : List ByteArray) (tl : List Tn) (fuse : Int) (down : Bool) (kv nv tv : Value) (e : Ending) : Prop :=
  (down = true ∧ e = .returned (.int .i64 7) ∧ RefD w' B gr kl nl tl fuse true kv nv tv) ∨ (down = false ∧ fuse = 0 ∧ e = .returned (.int .i64 7) ∧ RefD w' B gr kl nl tl (-1) true kv nv tv) ∨ (down = false ∧ fuse ≠ 0 ∧ e = .returned (.int .i64 0) ∧ RefD w' B gr kl nl tl (stepL fuse) false kv nv tv)
set_option maxRecDepth 100000 in
theorem rstep_any {B gr : Nat} {kl nl : List ByteArray} {tl : List Tn} {fuse : Int} {down : Bool} {kv nv tv : Value} (w : World) (h : RefD w B gr kl nl tl fuse down kv nv tv) (hlf : fuse ≤ 9223372036854775807) :
    Calls Try.prog 25 #[.pointer (some ⟨gr, 0, none⟩)] w fun e w' => KeptB w w' (fun k => k = gr) ∧ RStepR w' B gr kl nl tl fuse down kv nv tv e := by
  have c3 : w.cell? ⟨gr, 3, none⟩ = some (.int .i64 fuse) := h.bd.c 3 (by simp)
  have c4 : w.cell? ⟨gr, 4, none⟩ = some (.bool down) := h.bd.c 4 (by simp)
  have f3 := h.bd.fz 3
  have f4 := h.bd.fz 4
  have HD := hidE h
  cases down with
  | true =>
    clear h
    go_enter Try.func25, Try.ntmps25
    go_wp2_with fail
    go_ret
    exact ⟨keptB_of_below (Below.refl _ _), .inl ⟨rfl, rfl, HD.out⟩⟩
  | false =>
    by_cases h0 : fuse = 0
    · have d0 : (fuse == 0) = true := by simp [h0]
      have B4 := blk_set h.bd 4 (.bool true) (by simp)
      have c3b : (w.setCell ⟨gr, 4, none⟩ (.bool true)).cell? ⟨gr, 3, none⟩ = some (.int .i64 fuse) := B4.c 3 (by simp)
      have f3b := B4.fz 3
      have B3 := blk_set B4 3 (.int .i64 (-1)) (by simp)
      have ks : KeptB w ((w.setCell ⟨gr, 4, none⟩ (.bool true)).setCell ⟨gr, 3, none⟩ (.int .i64 (-1))) (fun k => k = gr) := keptB_set (keptB_set (keptB_of_below (bad := fun k => k = gr) (Below.refl w.heap.size w)) rfl 4 _) rfl 3 _
      have D3 := hidE (refD_set (fuse' := -1) (down' := true) h ks (by simpa using B3))
      have KS := hidE ks
      have H0 := hidE h0
      clear h B4 B3 ks h0
      go_enter Try.func25, Try.ntmps25
      go_wp2_with fail
      go_ret
      exact ⟨KS.out, .inr (.inl ⟨rfl, H0.out, rfl, D3.out⟩)⟩
    · have d0 : (fuse == 0) = false := by simp [h0]
      have H0 := hidE h0
      by_cases hp : 0 < fuse
      · have d1 : decide (0 < fuse) = true := by simp [hp]
        have wl : IntKind.i64.wrap (fuse - 1) = fuse - 1 := wrapIn2 _ (by omega) (by omega)
        have B3 := blk_set h.bd 3 (.int .i64 (fuse - 1)) (by simp)
        have ks : KeptB w (w.setCell ⟨gr, 3, none⟩ (.int .i64 (fuse - 1))) (fun k => k = gr) := keptB_set (keptB_of_below (bad := fun k => k = gr) (Below.refl w.heap.size w)) rfl 3 _
        have D3 := hidE (refD_set (fuse' := fuse - 1) (down' := false) h ks (by simpa using B3))
        have KS := hidE ks
        have SL : Hid (stepL fuse = fuse - 1) := by
          show _ = _
          unfold stepL
          rw [if_pos hp]
        clear h B3 ks h0
        go_enter Try.func25, Try.ntmps25
        go_wp2_with fail
        go_ret
        exact ⟨KS.out, .inr (.inr ⟨rfl, H0.out, rfl, by rw [SL.out]; exact D3.out⟩)⟩
      · have d1 : decide (0 < fuse) = false := by simp [hp]
        have SL : Hid (stepL fuse = fuse) := by
          show _ = _
          unfold stepL
          rw [if_neg hp]
        clear h h0
        go_enter Try.func25, Try.ntmps25
        go_wp2_with fail
        go_ret
        exact ⟨keptB_of_below (Below.refl _ _), .inr (.inr ⟨rfl, H0.out, rfl, by rw [SL.out]; exact HD.out⟩)⟩
end Go.Proofs.Ytjiopjdbifcfkac
